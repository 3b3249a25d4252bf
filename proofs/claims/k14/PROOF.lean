import PyProof.Rows.All
import Wide.All
import OpenK.AllK
import Wide.FinOn
import HandS.ForMost
import HandS.Wide
import HandS.IsInst
import HandS.Flow
import HandS.Codes
import HandS.StrMore
import HandS.Walk
import HandS.Style
import HandS.Exc
import HandS.DictComp
import HandS.TupAny
import HandS.More
import HandS.SortInts
import HandS.ExcInit
import HandS.ExcField
import HandS.ExcCtx
import HandS.HotCalls
import HandS.ExcInitHot
import HandS.ExcIs
import HandS.Deep
import HandS.Remove
import KE.DataFind
import KE.KStateDown
import HandS.Head0
import HandS.Head1
import HandS.Head2
import HandS.HeadEnd
import HandS.HeadHook1
import HandS.HeadHook2
import PySem.Challenge.RW_lenstree_k14_limit_step_schemas
set_option Elab.async false
set_option linter.all false
set_option maxRecDepth 100000
set_option maxHeartbeats 4000000
set_option autoImplicit false
set_option autoImplicit false
namespace Lt
open PySem L2 TL
open C8 (pss_cut)
/-! ## what every law of Lenstree leans on -/
/-- a def that has been walked: how it is called -/
structure Cal (P : Program) (w : World) (K : PySem.W.Frag) (mg : Str → Option Value) (base : Heap) (n : Nat) (x : Str) (ps : List Str) (sp : Sp) (g : Addr) (gd : FuncData) : Prop where
  G : FnOk P w K mg base CX0 n g gd ps sp
  m : mg x = some (.ref g)
  kp : PySem.W.keepIn K (.ref g) = true
  b : Binds K gd ps []
/-- a def as the top has made it -/
structure Kn (K : PySem.W.Frag) (mg : Str → Option Value) (x : Str) (st : Stmt) (ps : List Str) (g : Addr) (gd : FuncData) : Prop where
  F : Fun K x x st g gd
  b : Binds K gd ps []
  m : mg x = some (.ref g)
theorem Kn.cal {P : Program} {w : World} {K : PySem.W.Frag} {mg : Str → Option Value} {base : Heap} {n : Nat} {x : Str} {st : Stmt} {ps : List Str} {sp : Sp} {g : Addr} {gd : FuncData}
    (k : Kn K mg x st ps g gd) (G : FnOk P w K mg base CX0 n g gd ps sp) : Cal P w K mg base n x ps sp g gd := ⟨G, k.m, k.F.kp, k.b⟩

/-! ### heaps that differ at one place -/
def SameX (t : Addr) (H H' : Hp) : Prop := ∀ b o, H b = some o → b ≠ t → H' b = some o
theorem SameX.refl (t : Addr) (H : Hp) : SameX t H H := fun _ _ h _ => h
theorem SameX.trans {t : Addr} {H H1 H2 : Hp} (a : SameX t H H1) (b : SameX t H1 H2) : SameX t H H2 := fun c o h n => b c o (a c o h n) n
theorem SameX.of {t : Addr} {H H1 : Hp} (a : Same H H1) : SameX t H H1 := fun c o h _ => a c o h
theorem SameX.upd {t : Addr} {H : Hp} (o : HO) : SameX t H (upd H t o) := fun b u h n => by rw [upd_ne n]; exact h
theorem same_new {H : Hp} {p : Addr} (h : H p = none) (o : HO) : Same H (upd H p o) := fun b u q => by rw [upd_ne (ne_of_none q h)]; exact q
theorem SameX.free {t : Addr} {H H' : Hp} (e : SameX t H H') {l : Addr} (hl : l ≠ t) (h : H' l = none) : H l = none := by
  cases q : H l with
  | none => rfl
  | some o => rw [e l o q hl] at h; cases h

theorem iteDT {c A B : Prop} [Decidable c] (hc : c) (h : A) : if decide c = true then A else B := by
  rw [decide_eq_true hc]; exact iteT h
theorem iteDF {c A B : Prop} [Decidable c] (hc : ¬ c) (h : B) : if decide c = true then A else B := by
  rw [decide_eq_false hc]; exact iteF h
theorem iteNF {c A B : Prop} [Decidable c] (hc : ¬ c) (h : A) : if (!decide c) = true then A else B := by
  rw [decide_eq_false hc]; exact iteT h
theorem ifD {c A B : Prop} [Decidable c] (h1 : c → A) (h2 : ¬ c → B) : if decide c = true then A else B := by
  by_cases h : c
  · exact iteDT h (h1 h)
  · exact iteDF h (h2 h)
theorem ifN {c A B : Prop} [Decidable c] (h1 : ¬ c → A) (h2 : c → B) : if (!decide c) = true then A else B := by
  by_cases h : c
  · exact iteNS h (h2 h)
  · exact iteNF h (h1 h)
theorem bl_T {c : Prop} [Decidable c] {Q : VK} {H : Hp} (hc : c) (h : Q (.bl true) H) : Q (.bl (decide c)) H := by rw [decide_eq_true hc]; exact h
theorem bl_F {c : Prop} [Decidable c] {Q : VK} {H : Hp} (hc : ¬ c) (h : Q (.bl false) H) : Q (.bl (decide c)) H := by rw [decide_eq_false hc]; exact h
theorem int_at {ns : List Int} {i : Nat} {x : V} (h : (ns.map V.int)[i]? = some x) : ∃ z, x = V.int z ∧ ns[i]? = some z := by
  rw [List.getElem?_map] at h
  cases e : ns[i]? with
  | none => rw [e] at h; cases h
  | some z => rw [e] at h; exact ⟨z, (Option.some.inj h).symm, rfl⟩
theorem same_upd {H H1 : Hp} {p : Addr} (h : H p = none) (o : HO) (e : Same H H1) : Same H (upd H1 p o) := fun b u q => by rw [upd_ne (ne_of_none q h)]; exact e _ _ q
theorem samex_upd {t : Addr} {H H1 : Hp} {p : Addr} (h : H p = none) (o : HO) (e : SameX t H H1) : SameX t H (upd H1 p o) := fun b u q n => by rw [upd_ne (ne_of_none q h)]; exact e _ _ q n
/-- isinstance(x, T) -/
theorem isi {K : PySem.W.Frag} {H : Hp} {Q : VK} {x : V} {a b : String} (r : Bool) (hT : TyX K H x (.type a)) (h : kitB a b = some r) (q : Q (.bl r) H) : rIsi K [x, .ty b] H Q :=
  ⟨_, _, _, _, r, rfl, .ty _, hT, kit_ty h, q⟩
/-- xs[i] of a list or a tuple -/
theorem ixq {K : PySem.W.Frag} {H : Hp} {Q : VK} {a : Addr} {xs : List V} {i : Int} {v : V} (h : SqL K H a xs ∨ SqT K H a xs) (e : atI xs i = some v) (q : Q v H) : rIx K (.ref a) (.int i) H Q := by
  rcases h with h | h
  · exact .inl ⟨a, xs, i, v, rfl, rfl, h, e, q⟩
  · exact .inr (.inl ⟨a, xs, i, v, rfl, rfl, h, e, q⟩)
theorem at_in {α : Type} {xs : List α} {i : Int} (h0 : 0 ≤ i) (h1 : i < xs.length) : ∃ v, atI xs i = some v ∧ v ∈ xs := by
  have hk : i.toNat < xs.length := by omega
  refine ⟨xs[i.toNat], ?_, List.getElem_mem hk⟩
  have e : i = ((i.toNat : Nat) : Int) := by omega
  have q : atI xs ((i.toNat : Nat) : Int) = some xs[i.toNat] := atI_nat (List.getElem?_eq_getElem hk)
  rw [← e] at q
  exact q
/-! ### texts -/
def one (c : Nat) : Str := ⟨#[c]⟩
def chOk (c : Nat) : Prop := 32 ≤ c ∧ c ≤ 126 ∧ c ≠ 37
instance (c : Nat) : Decidable (chOk c) := by unfold chOk; exact inferInstance
theorem tl_one (c : Nat) : tl (one c) = [c] := rfl
theorem join_ones : ∀ chs : List Nat, joinL [] ((chs.map one).map tl) = chs
  | [] => rfl
  | [c] => rfl
  | c :: d :: r => by
    have q := join_ones (d :: r)
    show [c] ++ ([] ++ joinL [] (((d :: r).map one).map tl)) = c :: d :: r
    rw [q]; rfl
theorem strOk_of {x : Str} (h : ∀ c ∈ tl x, chOk c) : PyData.strOk x = true := by
  unfold PyData.strOk
  rw [← Array.all_toList, List.all_eq_true]
  intro c hc
  have := h c hc
  unfold chOk at this
  exact decide_eq_true (by omega)
theorem tl_empty : tl ("" : Str) = [] := by decide +kernel
theorem tl_joined (chs : List Nat) : tl (Txt.join ("" : Str) (chs.map one)) = chs := by
  rw [join_eq, tl_join, tl_empty, join_ones]
theorem len_joined (chs : List Nat) : (Txt.join ("" : Str) (chs.map one)).length = chs.length := by rw [len_tl, tl_joined]
theorem sum_ones (chs : List Nat) : ((chs.map one).map (·.length)).sum = chs.length := by
  induction chs with
  | nil => rfl
  | cons c r ih => rw [List.map_cons, List.map_cons, List.sum_cons, ih, List.length_cons]; show 1 + r.length = r.length + 1; omega
/-! ### the tape that a law draws from -/
theorem s_cells_at : ¬ ("cells" : Str) = ("at" : Str) := by decide +kernel
theorem n_cells_at : ¬ (Sum.inr ("cells" : Str) : Key) = Sum.inr ("at" : Str) := fun e => s_cells_at (Sum.inr.inj e)
theorem s_cells_left : ¬ ("cells" : Str) = ("left" : Str) := by decide +kernel
theorem n_cells_left : ¬ (Sum.inr ("cells" : Str) : Key) = Sum.inr ("left" : Str) := fun e => s_cells_left (Sum.inr.inj e)
theorem s_cells_seed : ¬ ("cells" : Str) = ("seed" : Str) := by decide +kernel
theorem n_cells_seed : ¬ (Sum.inr ("cells" : Str) : Key) = Sum.inr ("seed" : Str) := fun e => s_cells_seed (Sum.inr.inj e)
theorem s_cells_salt : ¬ ("cells" : Str) = ("salt" : Str) := by decide +kernel
theorem n_cells_salt : ¬ (Sum.inr ("cells" : Str) : Key) = Sum.inr ("salt" : Str) := fun e => s_cells_salt (Sum.inr.inj e)
theorem s_at_cells : ¬ ("at" : Str) = ("cells" : Str) := by decide +kernel
theorem s_at_left : ¬ ("at" : Str) = ("left" : Str) := by decide +kernel
theorem n_at_left : ¬ (Sum.inr ("at" : Str) : Key) = Sum.inr ("left" : Str) := fun e => s_at_left (Sum.inr.inj e)
theorem s_at_seed : ¬ ("at" : Str) = ("seed" : Str) := by decide +kernel
theorem n_at_seed : ¬ (Sum.inr ("at" : Str) : Key) = Sum.inr ("seed" : Str) := fun e => s_at_seed (Sum.inr.inj e)
theorem s_at_salt : ¬ ("at" : Str) = ("salt" : Str) := by decide +kernel
theorem n_at_salt : ¬ (Sum.inr ("at" : Str) : Key) = Sum.inr ("salt" : Str) := fun e => s_at_salt (Sum.inr.inj e)
theorem s_left_cells : ¬ ("left" : Str) = ("cells" : Str) := by decide +kernel
theorem s_left_at : ¬ ("left" : Str) = ("at" : Str) := by decide +kernel
theorem s_left_seed : ¬ ("left" : Str) = ("seed" : Str) := by decide +kernel
theorem n_left_seed : ¬ (Sum.inr ("left" : Str) : Key) = Sum.inr ("seed" : Str) := fun e => s_left_seed (Sum.inr.inj e)
theorem s_left_salt : ¬ ("left" : Str) = ("salt" : Str) := by decide +kernel
theorem n_left_salt : ¬ (Sum.inr ("left" : Str) : Key) = Sum.inr ("salt" : Str) := fun e => s_left_salt (Sum.inr.inj e)
theorem s_seed_cells : ¬ ("seed" : Str) = ("cells" : Str) := by decide +kernel
theorem s_seed_at : ¬ ("seed" : Str) = ("at" : Str) := by decide +kernel
theorem s_seed_left : ¬ ("seed" : Str) = ("left" : Str) := by decide +kernel
theorem s_seed_salt : ¬ ("seed" : Str) = ("salt" : Str) := by decide +kernel
theorem n_seed_salt : ¬ (Sum.inr ("seed" : Str) : Key) = Sum.inr ("salt" : Str) := fun e => s_seed_salt (Sum.inr.inj e)
theorem s_salt_cells : ¬ ("salt" : Str) = ("cells" : Str) := by decide +kernel
theorem s_salt_at : ¬ ("salt" : Str) = ("at" : Str) := by decide +kernel
theorem s_salt_left : ¬ ("salt" : Str) = ("left" : Str) := by decide +kernel
theorem s_salt_seed : ¬ ("salt" : Str) = ("seed" : Str) := by decide +kernel
def tk (c : Addr) (a l s m : Int) : List (Key × V) := [(Sum.inr "cells", .ref c), (Sum.inr "at", .int a), (Sum.inr "left", .int l), (Sum.inr "seed", .int s), (Sum.inr "salt", .int m)]
section
variable (c : Addr) (a l s m x : Int)
theorem tk_cells : valV (tk c a l s m) (Sum.inr ("cells" : Str) : Key) = some (.ref c) := valV_pos rfl
theorem tk_at : valV (tk c a l s m) (Sum.inr ("at" : Str) : Key) = some (.int a) := by unfold tk; rw [valV_neg n_cells_at, valV_pos rfl]
theorem tk_left : valV (tk c a l s m) (Sum.inr ("left" : Str) : Key) = some (.int l) := by unfold tk; rw [valV_neg n_cells_left, valV_neg n_at_left, valV_pos rfl]
theorem tk_seed : valV (tk c a l s m) (Sum.inr ("seed" : Str) : Key) = some (.int s) := by unfold tk; rw [valV_neg n_cells_seed, valV_neg n_at_seed, valV_neg n_left_seed, valV_pos rfl]
theorem tk_salt : valV (tk c a l s m) (Sum.inr ("salt" : Str) : Key) = some (.int m) := by unfold tk; rw [valV_neg n_cells_salt, valV_neg n_at_salt, valV_neg n_left_salt, valV_neg n_seed_salt, valV_pos rfl]
theorem put_at : putK (tk c a l s m) (Sum.inr ("at" : Str) : Key) (.int x) = tk c x l s m := by
  simp [putK, tk, s_at_cells, s_cells_at, s_at_left, s_left_at, s_at_seed, s_seed_at, s_at_salt, s_salt_at]
theorem put_left : putK (tk c a l s m) (Sum.inr ("left" : Str) : Key) (.int x) = tk c a x s m := by
  simp [putK, tk, s_left_cells, s_cells_left, s_left_at, s_at_left, s_left_seed, s_seed_left, s_left_salt, s_salt_left]
theorem put_salt : putK (tk c a l s m) (Sum.inr ("salt" : Str) : Key) (.int x) = tk c a l s x := by
  simp [putK, tk, s_salt_cells, s_cells_salt, s_salt_at, s_at_salt, s_salt_left, s_left_salt, s_salt_seed, s_seed_salt]
end
theorem merge_tk (c : Addr) (a l s m : Int) : mergeK [] (tk c a l s m) = tk c a l s m := by
  simp [mergeK, putK, tk, s_cells_at, s_cells_left, s_cells_seed, s_cells_salt, s_at_left, s_at_seed, s_at_salt, s_left_seed, s_left_salt, s_seed_salt]
structure TapeAt (H : Hp) (t c : Addr) (cs : List Int) : Prop where
  dk : ∃ a l s m : Int, H t = some (.dK (tk c a l s m)) ∧ 0 ≤ a ∧ 0 ≤ l
  ls : H c = some (.lst (cs.map V.int))
  nn : ∀ x ∈ cs, (0 : Int) ≤ x
theorem TapeAt.ne {H : Hp} {t c : Addr} {cs : List Int} (T : TapeAt H t c cs) : c ≠ t := by
  obtain ⟨a, l, s, m, h, _⟩ := T.dk
  exact ne_of T.ls h (by intro z; cases z)
theorem TapeAt.mono {H H' : Hp} {t c : Addr} {cs : List Int} (T : TapeAt H t c cs) (e : Same H H') : TapeAt H' t c cs := by
  obtain ⟨a, l, s, m, h, h1, h2⟩ := T.dk
  exact ⟨⟨a, l, s, m, e _ _ h, h1, h2⟩, e _ _ T.ls, T.nn⟩
theorem TapeAt.upd {H : Hp} {t c D : Addr} {cs : List Int} {o : HO} (T : TapeAt H t c cs) (h1 : D ≠ t) (h2 : c ≠ D) : TapeAt (upd H D o) t c cs := by
  obtain ⟨a, l, s, m, h, k1, k2⟩ := T.dk
  exact ⟨⟨a, l, s, m, by rw [upd_ne h1.symm]; exact h, k1, k2⟩, by rw [upd_ne h2]; exact T.ls, T.nn⟩
theorem tk_len {c : Addr} {a l s m : Int} : (tk c a l s m).length < sizeLine := by show 5 < sizeLine; decide
section
variable {H : Hp} {t c : Addr} {a l s m : Int}
theorem d_cells (h : H t = some (.dK (tk c a l s m))) : DGet H t (.str "cells") (some (.ref c)) := by have g := DGet.k (k := (Sum.inr ("cells" : Str) : Key)) h; rw [tk_cells] at g; exact g
theorem d_at (h : H t = some (.dK (tk c a l s m))) : DGet H t (.str "at") (some (.int a)) := by have g := DGet.k (k := (Sum.inr ("at" : Str) : Key)) h; rw [tk_at] at g; exact g
theorem d_left (h : H t = some (.dK (tk c a l s m))) : DGet H t (.str "left") (some (.int l)) := by have g := DGet.k (k := (Sum.inr ("left" : Str) : Key)) h; rw [tk_left] at g; exact g
theorem d_seed (h : H t = some (.dK (tk c a l s m))) : DGet H t (.str "seed") (some (.int s)) := by have g := DGet.k (k := (Sum.inr ("seed" : Str) : Key)) h; rw [tk_seed] at g; exact g
theorem d_salt (h : H t = some (.dK (tk c a l s m))) : DGet H t (.str "salt") (some (.int m)) := by have g := DGet.k (k := (Sum.inr ("salt" : Str) : Key)) h; rw [tk_salt] at g; exact g
theorem p_at (h : H t = some (.dK (tk c a l s m))) (x : Int) : DPut H t (.str "at") (.int x) (upd H t (.dK (tk c x l s m))) := by have g := DPut.k (k := (Sum.inr ("at" : Str) : Key)) (v := .int x) h tk_len; rw [put_at] at g; exact g
theorem p_left (h : H t = some (.dK (tk c a l s m))) (x : Int) : DPut H t (.str "left") (.int x) (upd H t (.dK (tk c a x s m))) := by have g := DPut.k (k := (Sum.inr ("left" : Str) : Key)) (v := .int x) h tk_len; rw [put_left] at g; exact g
theorem p_salt (h : H t = some (.dK (tk c a l s m))) (x : Int) : DPut H t (.str "salt") (.int x) (upd H t (.dK (tk c a l s x))) := by have g := DPut.k (k := (Sum.inr ("salt" : Str) : Key)) (v := .int x) h tk_len; rw [put_salt] at g; exact g
end
/-- _law_tape -/
def spTape (K : PySem.W.Frag) : Sp := fun vs H Q _ => ∃ (a : Addr) (ns : List Int), vs = [.ref a] ∧ SqL K H a (ns.map V.int) ∧ ns.length ≤ 63 ∧
  ∀ t c cs H', TapeAt H' t c cs → Same H H' → H t = none → Q (.ref t) H'
/-- _law_take -/
def spTake : Sp := fun vs H Q _ => ∃ (t c : Addr) (cs : List Int) (many : Int), vs = [.ref t, .int many] ∧ TapeAt H t c cs ∧ 0 < many ∧ many.natAbs < 2 ^ 9000 ∧
  ∀ d H', 0 ≤ d → d < many → TapeAt H' t c cs → SameX t H H' → Q (.int d) H'

/-! ### two pieces of data that are the same -/
def isScal : V → Bool
  | .non => true
  | .bl _ => true
  | .int _ => true
  | .str _ => true
  | _ => false
/-- x and y are the same data, nested less than n deep -/
def SameV (K : PySem.W.Frag) (H : Hp) : Nat → V → V → Prop
  | 0, _, _ => False
  | n + 1, x, y => (x = y ∧ isScal x = true) ∨
      (∃ (a b : Addr) (xs ys : List V), x = .ref a ∧ y = .ref b ∧ H a = some (.lst xs) ∧ H b = some (.lst ys) ∧ xs.length = ys.length ∧ xs.length ≤ 1000 ∧ ∀ (i : Nat) (u v : V), xs[i]? = some u → ys[i]? = some v → SameV K H n u v) ∨
      (∃ (a b : Addr) (xs ys : List V), x = .ref a ∧ y = .ref b ∧ H a = some (.tup xs) ∧ H b = some (.tup ys) ∧ xs.length = ys.length ∧ xs.length ≤ 1000 ∧ ∀ (i : Nat) (u v : V), xs[i]? = some u → ys[i]? = some v → SameV K H n u v)
theorem SameV.sc {K : PySem.W.Frag} {H : Hp} {n : Nat} {x : V} (h : isScal x = true) : SameV K H (n + 1) x x := Or.inl ⟨rfl, h⟩
/-- _law_same, for data that are the same -/
def spSame (K : PySem.W.Frag) (n : Nat) : Sp := fun vs H Q _ => ∃ x y, vs = [x, y] ∧ SameV K H n x y ∧ Q (.bl true) H
def spItems (K : PySem.W.Frag) (n : Nat) : Sp := fun vs H Q _ => ∃ (a b : Addr) (xs ys : List V), vs = [.ref a, .ref b] ∧ ((H a = some (.lst xs) ∧ H b = some (.lst ys)) ∨ (H a = some (.tup xs) ∧ H b = some (.tup ys))) ∧ xs.length = ys.length ∧ xs.length ≤ 1000 ∧
  (∀ (i : Nat) (u v : V), xs[i]? = some u → ys[i]? = some v → SameV K H n u v) ∧ Q (.bl true) H
def spIsInt : Sp := fun vs H Q _ => ∃ x, vs = [x] ∧ isScal x = true ∧ Q (.bl (match x with | .int _ => true | _ => false)) H
theorem ty_scal {K : PySem.W.Frag} {H : Hp} {x : V} (h : isScal x = true) : ∃ t : String, TyX K H x (.type t) ∧ (x = .non ∧ t = "NoneType" ∨ (∃ b, x = .bl b) ∧ t = "bool" ∨ (∃ i, x = .int i) ∧ t = "int" ∨ (∃ z, x = .str z) ∧ t = "str") := by
  cases x with
  | non => exact ⟨_, .base .non, .inl ⟨rfl, rfl⟩⟩
  | bl b => exact ⟨_, .base (.bl b), .inr (.inl ⟨⟨b, rfl⟩, rfl⟩)⟩
  | int i => exact ⟨_, .base (.int i), .inr (.inr (.inl ⟨⟨i, rfl⟩, rfl⟩))⟩
  | str z => exact ⟨_, .base (.str z), .inr (.inr (.inr ⟨⟨z, rfl⟩, rfl⟩))⟩
  | byt _ => cases h
  | flt _ => cases h
  | ref _ => cases h
  | ty _ => cases h
/-- a def that draws: from the tape at t, what it hands back in R -/
def spDraw (R : V → Hp → Addr → Prop) : Sp := fun vs H Q _ => ∃ (t c : Addr) (cs : List Int), vs = [.ref t] ∧ TapeAt H t c cs ∧ ∀ v H', R v H' t → TapeAt H' t c cs → SameX t H H' → Q v H'
def isChar : V → Hp → Addr → Prop := fun v _ _ => ∃ c, chOk c ∧ v = .str (one c)
def isText (n : Nat) : V → Hp → Addr → Prop := fun v _ _ => ∃ z : Str, z.length ≤ n ∧ (∀ c ∈ tl z, chOk c) ∧ v = .str z
def isInt (lo hi : Int) : V → Hp → Addr → Prop := fun v _ _ => ∃ i : Int, lo ≤ i ∧ i ≤ hi ∧ v = .int i
theorem cutS_sub {z : Str} {lo hi : Option Int} : ∀ c ∈ tl (cutS z lo hi), c ∈ tl z := by
  intro c hc
  have e : tl (cutS z lo hi) = (z.cps.toList.drop (HT.sIx z.length 0 lo)).take (HT.sIx z.length z.length hi - HT.sIx z.length 0 lo) := by simp [tl, cutS]
  rw [e] at hc
  exact List.mem_of_mem_drop (List.mem_of_mem_take hc)
theorem len_app (u v : Str) : (u ++ v).length = u.length + v.length := by rw [len_tl, tl_append, List.length_append, ← len_tl, ← len_tl]
/-- anything that is handed to is_value -/
inductive Thing (H : Hp) : V → Prop where
  | non : Thing H .non
  | bl (b : Bool) : Thing H (.bl b)
  | int (i : Int) : Thing H (.int i)
  | str (z : Str) (h : z.length ≤ 1000) : Thing H (.str z)
  | lst {a : Addr} {xs : List V} (h : H a = some (.lst xs)) : Thing H (.ref a)
  | tup {a : Addr} {xs : List V} (h : H a = some (.tup xs)) : Thing H (.ref a)
theorem Thing.mono {H H' : Hp} {v : V} (t : Thing H v) (e : Same H H') : Thing H' v := by
  cases t with
  | non => exact .non
  | bl b => exact .bl b
  | int i => exact .int i
  | str z h => exact .str z h
  | lst h => exact .lst (e _ _ h)
  | tup h => exact .tup (e _ _ h)
/-- is it a value (point 3) -/
def goodV : V → Bool
  | .non => true
  | .int i => decide (-1000000000 < i ∧ i < 1000000000)
  | .str z => decide (z.length ≤ 30 ∧ ∀ c ∈ tl z, chOk c)
  | _ => false
def kindOf : V → Str
  | .non => ""
  | .int _ => "int"
  | .bl _ => "int"
  | _ => "text"
def plainOf (k : Str) (b : Bool) : V := if b = true then .non else if k = ("int" : Str) then .int 0 else .str ""
def spIsValue : Sp := fun vs H Q _ => ∃ v, vs = [v] ∧ Thing H v ∧ ∀ H', Same H H' → Q (.bl (goodV v)) H'
def spIsText : Sp := fun vs H Q _ => ∃ z : Str, vs = [.str z] ∧ z.length ≤ 1000 ∧ ∀ H', Same H H' → Q (.bl (goodV (.str z))) H'
def spIsChar : Sp := fun vs H Q _ => ∃ c : Nat, vs = [.str (one c)] ∧ Q (.bl (decide (chOk c))) H
def spKindOf : Sp := fun vs H Q _ => ∃ v, vs = [v] ∧ isScal v = true ∧ Q (.str (kindOf v)) H
def spPlain : Sp := fun vs H Q _ => ∃ (k : Str) (b : Bool), vs = [.str k, .bl b] ∧ Q (plainOf k b) H
/-- what law(script) promises -/
def spLaw (K : PySem.W.Frag) : Sp := fun vs H Q _ => ∃ (a : Addr) (ns : List Int), vs = [.ref a] ∧ SqL K H a (ns.map V.int) ∧ ns.length ≤ 63 ∧ ∀ H', Q (.bl true) H'
def codeOk (c : Int) : Prop := 32 ≤ c ∧ c ≤ 126 ∧ c ≠ 37
instance (c : Int) : Decidable (codeOk c) := by unfold codeOk; exact inferInstance
/-- is_text_code -/
def spIsCode : Sp := fun vs H Q _ => ∃ c : Int, vs = [.int c] ∧ Q (.bl (decide (codeOk c))) H
end Lt

set_option autoImplicit false
namespace Lt
open PySem L2 TL
open C8 (pss_cut)
/-! ## data that stand still: tuples of tuples of plain values -/
inductive D where
  | s (v : V)
  | t (ds : List D)
mutual
inductive Tp (H : Hp) : V → D → Prop
  | s {v : V} (h : isScal v = true) : Tp H v (.s v)
  | t {a : Addr} {xs : List V} {ds : List D} (h : H a = some (.tup xs)) (r : TpL H xs ds) : Tp H (.ref a) (.t ds)
inductive TpL (H : Hp) : List V → List D → Prop
  | nil : TpL H [] []
  | cons {v : V} {d : D} {vs : List V} {ds : List D} (h : Tp H v d) (r : TpL H vs ds) : TpL H (v :: vs) (d :: ds)
end
/-- every tuple stands as it stood -/
def KeepT (H H' : Hp) : Prop := ∀ b xs, H b = some (.tup xs) → H' b = some (.tup xs)
theorem KeepT.refl (H : Hp) : KeepT H H := fun _ _ h => h
theorem KeepT.trans {H H1 H2 : Hp} (a : KeepT H H1) (b : KeepT H1 H2) : KeepT H H2 := fun c o h => b c o (a c o h)
theorem KeepT.of {H H1 : Hp} (a : Same H H1) : KeepT H H1 := fun c o h => a c _ h
theorem KeepT.ofX {t c : Addr} {cs : List Int} {H H1 : Hp} (T : TapeAt H t c cs) (a : SameX t H H1) : KeepT H H1 := fun b o h => a b _ h (by
  obtain ⟨_, _, _, _, e, _⟩ := T.dk
  exact ne_of h e (by intro z; cases z))
theorem KeepT.upd {H : Hp} {p : Addr} {o : HO} (h : ∀ xs, H p ≠ some (.tup xs)) : KeepT H (L2.upd H p o) := fun b xs e => by
  have ne : b ≠ p := by
    intro z
    subst z
    exact h xs e
  rw [upd_ne ne]; exact e
theorem KeepT.new {H : Hp} {p : Addr} (h : H p = none) (o : HO) : KeepT H (L2.upd H p o) := KeepT.of (same_new h o)
mutual
theorem Tp.mono {H H' : Hp} (k : KeepT H H') : ∀ {d : D} {v : V}, Tp H v d → Tp H' v d
  | .s _, _, h => by cases h with | s h => exact .s h
  | .t ds, _, h => by cases h with | t h r => exact .t (k _ _ h) (TpL.mono k r)
theorem TpL.mono {H H' : Hp} (k : KeepT H H') : ∀ {ds : List D} {vs : List V}, TpL H vs ds → TpL H' vs ds
  | [], _, h => by cases h; exact .nil
  | d :: ds, _, h => by cases h with | cons h r => exact .cons (Tp.mono k h) (TpL.mono k r)
end
theorem TpL.length {H : Hp} : ∀ {ds : List D} {vs : List V}, TpL H vs ds → vs.length = ds.length
  | [], _, h => by cases h; rfl
  | d :: ds, _, h => by cases h with | cons h r => rw [List.length_cons, List.length_cons, TpL.length r]
theorem TpL.get {H : Hp} : ∀ {ds : List D} {vs : List V} {i : Nat} {v : V}, TpL H vs ds → vs[i]? = some v → ∃ d, ds[i]? = some d ∧ Tp H v d
  | [], _, i, v, h, e => by cases h; simp at e
  | d :: ds, _, 0, v, h, e => by cases h with | cons h r => simp at e; subst e; exact ⟨d, rfl, h⟩
  | d :: ds, _, i + 1, v, h, e => by cases h with | cons h r => exact TpL.get (i := i) r (by simpa using e)
theorem TpL.get' {H : Hp} {ds : List D} {vs : List V} {i : Nat} {d : D} (h : TpL H vs ds) (e : ds[i]? = some d) : ∃ v, vs[i]? = some v ∧ Tp H v d := by
  have hl := h.length
  have hi : i < ds.length := (List.getElem?_eq_some_iff.mp e).1
  have ev : vs[i]? = some vs[i] := List.getElem?_eq_getElem (by omega)
  obtain ⟨d', e1, e2⟩ := h.get ev
  rw [e] at e1
  cases e1
  exact ⟨_, ev, e2⟩
theorem TpL.snoc {H : Hp} : ∀ {ds : List D} {vs : List V} {v : V} {d : D}, TpL H vs ds → Tp H v d → TpL H (vs ++ [v]) (ds ++ [d])
  | [], _, v, d, h, q => by cases h; exact .cons q .nil
  | d0 :: ds, _, v, d, h, q => by cases h with | cons h r => exact .cons h (TpL.snoc r q)
theorem TpL.scal {H : Hp} : ∀ {vs : List V}, (∀ v ∈ vs, isScal v = true) → TpL H vs (vs.map D.s)
  | [], _ => .nil
  | v :: vs, h => .cons (.s (h v List.mem_cons_self)) (TpL.scal fun x hx => h x (List.mem_cons_of_mem _ hx))

/-! ### columns, clauses, conditions -/
structure Col where
  n : Str
  k : Str
  b : Bool
def colD (c : Col) : D := .t [.s (.str c.n), .s (.str c.k), .s (.bl c.b)]
structure Cl where
  n : Str
  op : Str
  v : V
def clD (c : Cl) : D := .t [.s (.str c.n), .s (.str c.op), .s c.v]
abbrev Cond := List (List Cl)
def altD (a : List Cl) : D := .t (a.map clD)
def condD (c : Cond) : D := .t (c.map altD)
theorem col_at {H : Hp} {v : V} {c : Col} (h : Tp H v (colD c)) : ∃ a, v = .ref a ∧ H a = some (.tup [.str c.n, .str c.k, .bl c.b]) := by
  cases h with
  | t h r =>
    cases r with
    | cons h1 r => cases h1; cases r with
      | cons h2 r => cases h2; cases r with
        | cons h3 r => cases h3; cases r; exact ⟨_, rfl, h⟩
theorem col_mk {H : Hp} {a : Addr} {c : Col} (h : H a = some (.tup [.str c.n, .str c.k, .bl c.b])) : Tp H (.ref a) (colD c) :=
  .t h (.cons (.s rfl) (.cons (.s rfl) (.cons (.s rfl) .nil)))
theorem cl_at {H : Hp} {v : V} {c : Cl} (h : Tp H v (clD c)) : ∃ a, v = .ref a ∧ H a = some (.tup [.str c.n, .str c.op, c.v]) ∧ isScal c.v = true := by
  cases h with
  | t h r =>
    cases r with
    | cons h1 r => cases h1; cases r with
      | cons h2 r => cases h2; cases r with
        | cons h3 r => cases h3 with | s hs => cases r; exact ⟨_, rfl, h, hs⟩
theorem cl_mk {H : Hp} {a : Addr} {c : Cl} (h : H a = some (.tup [.str c.n, .str c.op, c.v])) (hs : isScal c.v = true) : Tp H (.ref a) (clD c) :=
  .t h (.cons (.s rfl) (.cons (.s rfl) (.cons (.s hs) .nil)))
theorem t_at {H : Hp} {v : V} {ds : List D} (h : Tp H v (.t ds)) : ∃ a xs, v = .ref a ∧ H a = some (.tup xs) ∧ TpL H xs ds := by
  cases h with
  | t h r => exact ⟨_, _, rfl, h, r⟩
/-! ### what a condition says of a row -/
def ltV : V → V → Bool
  | .int a, .int b => decide (a < b)
  | .str a, .str b => decide (tl a < tl b)
  | _, _ => false
def cmpM (v : V) (op : Str) (w : V) : Bool :=
  if op = ("=" : Str) then decide (v = w) else if op = ("!=" : Str) then !decide (v = w) else if op = ("<" : Str) then ltV v w
  else if op = ("<=" : Str) then !ltV w v else if op = (">" : Str) then ltV w v else !ltV v w
/-- two values that may be compared -/
def Alike (v w : V) : Prop := (∃ a b, v = .int a ∧ w = .int b) ∨ ∃ a b, v = .str a ∧ w = .str b
def at_ (names : List Str) (row : List V) (n : Str) : V := row.getD (names.idxOf n) .non
def clauseM (names : List Str) (row : List V) (c : Cl) : Bool :=
  if c.op = ("null" : Str) then decide (at_ names row c.n = .non) else if c.op = ("given" : Str) then !decide (at_ names row c.n = .non)
  else if at_ names row c.n = .non then false else cmpM (at_ names row c.n) c.op c.v
def altM (names : List Str) (row : List V) (a : List Cl) : Bool := a.all (clauseM names row)
def holdsM (names : List Str) (row : List V) (c : Cond) : Bool := c.any (altM names row)
/-- the clause can be asked of the row -/
def ClFit (names : List Str) (row : List V) (c : Cl) : Prop := c.n ∈ names ∧ (c.op = ("null" : Str) ∨ c.op = ("given" : Str) ∨ at_ names row c.n = .non ∨ Alike (at_ names row c.n) c.v)
theorem idx_str : ∀ {names : List Str} {n : Str}, n ∈ names → ∃ j, j = names.idxOf n ∧ j < names.length ∧ names[j]? = some n ∧ ∀ m x, m < j → names[m]? = some x → x ≠ n
  | [], n, h => by cases h
  | x :: r, n, h => by
    by_cases e : x = n
    · subst e
      exact ⟨0, by simp, by simp, rfl, fun m x hm => absurd hm (Nat.not_lt_zero _)⟩
    · have h' : n ∈ r := by
        rcases List.mem_cons.mp h with h | h
        · exact absurd h.symm e
        · exact h
      obtain ⟨j, e1, e2, e3, e4⟩ := idx_str h'
      refine ⟨j + 1, by rw [List.idxOf_cons, beq_false_of_ne e, ← e1]; rfl, by rw [List.length_cons]; omega, by simpa using e3, fun m y hm hy => ?_⟩
      match m, hm, hy with
      | 0, _, hy => simp at hy; subst hy; exact e
      | m + 1, hm, hy => exact e4 m y (by omega) (by simpa using hy)
theorem at_some {names : List Str} {row : List V} {n : Str} (h : n ∈ names) (hl : row.length = names.length) : row[names.idxOf n]? = some (at_ names row n) := by
  obtain ⟨j, e1, e2, _, _⟩ := idx_str h
  rw [← e1]
  unfold at_
  rw [← e1, List.getD_eq_getElem?_getD, List.getElem?_eq_getElem (by omega)]
  rfl
theorem list_lt (a b : List Nat) : (!decide (b < a)) = (decide (a < b) || decide (a = b)) := by
  have h : ¬ b < a ↔ (a < b ∨ a = b) := by rw [List.not_lt]; exact List.le_iff_lt_or_eq
  by_cases h1 : b < a
  · have h2 : ¬ (a < b ∨ a = b) := fun z => h.mpr z h1
    have h3 : ¬ a < b := fun z => h2 (.inl z)
    have h4 : ¬ a = b := fun z => h2 (.inr z)
    simp [h1, h3, h4]
  · rcases h.mp h1 with h2 | h2
    · simp [h1, h2]
    · simp [h1, h2]
theorem le_V {v w : V} (h : Alike v w) : (!ltV w v) = (ltV v w || decide (v = w)) := by
  rcases h with ⟨a, b, rfl, rfl⟩ | ⟨a, b, rfl, rfl⟩
  · unfold ltV
    by_cases h1 : b < a
    · have h2 : ¬ a < b := by omega
      have h3 : ¬ V.int a = V.int b := fun z => by cases z; omega
      simp [h1, h2]
      intro z; omega
    · by_cases h2 : a < b
      · simp [h1, h2]
      · have e : a = b := by omega
        simp [e]
  · unfold ltV
    rw [list_lt]
    have e : decide (tl a = tl b) = decide (V.str a = V.str b) := by
      by_cases h : a = b
      · subst h; simp
      · have h1 : ¬ tl a = tl b := fun z => h (ext_tl z)
        have h2 : ¬ V.str a = V.str b := fun z => h (V.str.inj z)
        rw [decide_eq_false h1, decide_eq_false h2]
    rw [e]
/-- one of two rules -/
theorem op_either {X : Cx} {f : Value → Value → Sem Value} {r1 r2 : R2} (h1 : OpR X f r1) (h2 : OpR X f r2) : OpR X f (fun x y H Q => r1 x y H Q ∨ r2 x y H Q) := by
  intro pins s σ H x y v u Q I rx ry h
  rcases h with h | h
  · exact h1 pins s σ H x y v u Q I rx ry h
  · exact h2 pins s σ H x y v u Q I rx ry h
/-- names.index(n) -/
theorem ix_names {names : List Str} {n : Str} (hn : n ∈ names) : ∃ z, (names.map V.str).all flatV = true ∧ (names.map V.str)[names.idxOf n]? = some z ∧ eqV z (.str n) = true ∧ ∀ (m : Nat) (z' : V), m < names.idxOf n → (names.map V.str)[m]? = some z' → eqV z' (.str n) = false := by
  obtain ⟨j, e1, e2, e3, e4⟩ := idx_str hn
  rw [← e1]
  refine ⟨.str n, ?_, ?_, ?_, ?_⟩
  · rw [List.all_eq_true]
    intro v hv
    obtain ⟨z, _, rfl⟩ := List.mem_map.mp hv
    rfl
  · rw [List.getElem?_map, e3]; rfl
  · show (n == n) = true; simp
  · intro m z hm hz
    rw [List.getElem?_map] at hz
    cases e : names[m]? with
    | none => rw [e] at hz; cases hz
    | some y =>
      rw [e] at hz
      cases hz
      have := e4 m y hm e
      show (y == n) = false
      simpa using this
/-- what a drawn value of a column is -/
def ValOf (k : Str) (b : Bool) (v : V) : Prop := (b = true ∧ v = .non) ∨ (k = ("int" : Str) ∧ ∃ i : Int, v = .int i ∧ -999999999 ≤ i ∧ i ≤ 999999999) ∨ (k ≠ ("int" : Str) ∧ ∃ z : Str, v = .str z ∧ z.length ≤ 30 ∧ ∀ c ∈ tl z, chOk c)
theorem ValOf.scal {k : Str} {b : Bool} {v : V} (h : ValOf k b v) : isScal v = true := by
  rcases h with ⟨_, rfl⟩ | ⟨_, i, rfl, _⟩ | ⟨_, z, rfl, _⟩ <;> rfl
theorem ValOf.alike {k : Str} {b : Bool} {v w : V} (h : ValOf k b v) (g : ValOf k false w) : v = .non ∨ Alike v w := by
  rcases h with ⟨_, rfl⟩ | ⟨k1, i, rfl, _⟩ | ⟨k1, z, rfl, _⟩
  · exact .inl rfl
  · rcases g with ⟨e, _⟩ | ⟨_, j, rfl, _⟩ | ⟨k2, _⟩
    · cases e
    · exact .inr (.inl ⟨_, _, rfl, rfl⟩)
    · exact absurd k1 k2
  · rcases g with ⟨e, _⟩ | ⟨k2, _⟩ | ⟨_, y, rfl, _⟩
    · cases e
    · exact absurd k2 k1
    · exact .inr (.inr ⟨_, _, rfl, rfl⟩)
end Lt

set_option autoImplicit false
namespace Lt
open PySem L2 TL
open C8 (pss_cut)
/-! ## what the laws draw -/
def SameXY (t u : Addr) (H H' : Hp) : Prop := ∀ b o, H b = some o → b ≠ t → b ≠ u → H' b = some o
theorem SameXY.refl (t u : Addr) (H : Hp) : SameXY t u H H := fun _ _ h _ _ => h
theorem SameXY.trans {t u : Addr} {H H1 H2 : Hp} (a : SameXY t u H H1) (b : SameXY t u H1 H2) : SameXY t u H H2 := fun c o h n m => b c o (a c o h n m) n m
theorem SameXY.ofX {t u : Addr} {H H1 : Hp} (a : SameX t H H1) : SameXY t u H H1 := fun c o h n _ => a c o h n
theorem SameXY.of {t u : Addr} {H H1 : Hp} (a : Same H H1) : SameXY t u H H1 := fun c o h _ _ => a c o h
theorem samexy_upd {t u : Addr} {H H1 : Hp} {p : Addr} (h : H p = none) (o : HO) (e : SameXY t u H H1) : SameXY t u H (upd H1 p o) := fun b v q n m => by rw [upd_ne (ne_of_none q h)]; exact e _ _ q n m
theorem SameXY.updY {t u : Addr} {H H1 : Hp} (o : HO) (e : SameXY t u H H1) : SameXY t u H (upd H1 u o) := fun b v q n m => by rw [upd_ne m]; exact e _ _ q n m
theorem TapeAt.fresh {H : Hp} {t c D : Addr} {cs : List Int} (T : TapeAt H t c cs) (h : H D = none) : D ≠ t ∧ c ≠ D := by
  obtain ⟨_, _, _, _, e, _⟩ := T.dk
  exact ⟨(ne_of_none e h).symm, ne_of_none T.ls h⟩
theorem TapeAt.notL {H : Hp} {t c D : Addr} {cs : List Int} {xs : List V} (T : TapeAt H t c cs) (h : H D = some (.lst xs)) : D ≠ t := by
  obtain ⟨_, _, _, _, e, _⟩ := T.dk
  exact ne_of h e (by intro z; cases z)
theorem KeepT.ofXY {t u c : Addr} {cs : List Int} {H H1 : Hp} {us : List V} (T : TapeAt H t c cs) (hu : H u = some (.lst us)) (a : SameXY t u H H1) : KeepT H H1 := fun b o h => by
  obtain ⟨_, _, _, _, e, _⟩ := T.dk
  exact a b _ h (ne_of h e (by intro z; cases z)) (ne_of h hu (by intro z; cases z))
theorem tl_int (i : Int) : tl (Str.ofString (toString i)) = if i < 0 then 45 :: numL i.natAbs else numL i.natAbs := by
  cases i with
  | ofNat n =>
    rw [if_neg (by show ¬ ((n : Int) < 0); omega)]
    exact tl_num n
  | negSucc n =>
    rw [if_pos (Int.negSucc_lt_zero n)]
    have e : toString (Int.negSucc n) = "-" ++ toString (((n + 1 : Nat) : Int)) := rfl
    rw [e, tl_ofString, String.toList_append, List.map_append, ← tl_ofString, ← tl_ofString, tl_num]
    rfl
theorem num_chars (n : Nat) : ∀ c ∈ numL n, 48 ≤ c ∧ c ≤ 57 := fun c h => numL_digits n c h
theorem int_text {i : Int} (h1 : -999999999 ≤ i) (h2 : i ≤ 999999999) : (Str.ofString (toString i)).length ≤ 10 ∧ ∀ c ∈ tl (Str.ofString (toString i)), c = 45 ∨ (48 ≤ c ∧ c ≤ 57) := by
  have hl : (numL i.natAbs).length ≤ 9 := numL_len (by decide) (by omega)
  constructor
  · rw [len_tl, tl_int]
    split
    · rw [List.length_cons]; omega
    · omega
  · intro c hc
    rw [tl_int] at hc
    split at hc
    · rcases List.mem_cons.mp hc with h | h
      · exact .inl h
      · exact .inr (num_chars _ _ h)
    · exact .inr (num_chars _ _ hc)
theorem log_small {i : Int} (h1 : -999999999 ≤ i) (h2 : i ≤ 999999999) : i.natAbs.log2 < 1920 := by
  have : i.natAbs < 2 ^ 30 := by omega
  exact Nat.lt_of_lt_of_le (PySem.Flt.log2_lt_of (by decide) this) (by decide)
theorem digit_ok {c : Nat} (h : c = 45 ∨ (48 ≤ c ∧ c ≤ 57)) : chOk c := by unfold chOk; omega
/-- _law_value -/
def spVal : Sp := fun vs H Q _ => ∃ (t c : Addr) (cs : List Int) (k : Str) (b : Bool), vs = [.ref t, .str k, .bl b] ∧ TapeAt H t c cs ∧ ∀ v H', ValOf k b v → TapeAt H' t c cs → SameX t H H' → Q v H'
/-! ### names -/
def nmCh (c : Nat) : Prop := (97 ≤ c ∧ c ≤ 122) ∨ (48 ≤ c ∧ c ≤ 57) ∨ c = 95
instance (c : Nat) : Decidable (nmCh c) := by unfold nmCh; exact inferInstance
def nameOk (z : Str) : Prop := z.length ≤ 20 ∧ (∃ c r, tl z = c :: r ∧ 97 ≤ c ∧ c ≤ 122) ∧ ∀ c ∈ tl z, nmCh c
theorem nmCh.ok {c : Nat} (h : nmCh c) : chOk c := by unfold nmCh at h; unfold chOk; omega
/-- each of i names of the list us begins with one of the first i letters, no two alike -/
def Hit (us : List Str) (i : Nat) : Prop := ∃ ws : List Str, ws.length = i ∧ ws.Nodup ∧ ∀ v ∈ ws, v ∈ us ∧ ∃ j r, j < i ∧ tl v = (97 + j) :: r
theorem Hit.step {us : List Str} {i : Nat} (h : Hit us i) {z : Str} {r : List Nat} (e : tl z = (97 + i) :: r) : z ∉ us ∨ Hit us (i + 1) := by
  obtain ⟨ws, h1, h2, h3⟩ := h
  by_cases hz : z ∈ us
  · refine .inr ⟨z :: ws, by rw [List.length_cons, h1], List.nodup_cons.mpr ⟨fun hw => ?_, h2⟩, fun v hv => ?_⟩
    · obtain ⟨_, j, r', hj, e'⟩ := h3 z hw
      rw [e] at e'
      have := (List.cons.inj e').1
      omega
    · rcases List.mem_cons.mp hv with rfl | hv
      · exact ⟨hz, i, r, by omega, e⟩
      · obtain ⟨a, j, r', hj, e'⟩ := h3 v hv
        exact ⟨a, j, r', by omega, e'⟩
  · exact .inl hz
theorem Hit.no {us : List Str} {i : Nat} (h : Hit us i) (hl : us.length < i) : False := by
  obtain ⟨ws, h1, h2, h3⟩ := h
  have := List.Nodup.length_le_of_subset h2 (fun v hv => (h3 v hv).1)
  omega
theorem inV_str (z : Str) (us : List Str) : inV (.str z) (us.map V.str) = decide (z ∈ us) := by
  unfold inV
  rw [Bool.eq_iff_iff, List.any_eq_true, decide_eq_true_iff]
  constructor
  · rintro ⟨v, hv, e⟩
    obtain ⟨y, hy, rfl⟩ := List.mem_map.mp hv
    have : y = z := by simpa [eqV] using e
    rw [← this]; exact hy
  · intro h
    exact ⟨.str z, List.mem_map.mpr ⟨z, h, rfl⟩, by simp [eqV]⟩
theorem flat_strs (us : List Str) : (us.map V.str).all flatV = true := by
  rw [List.all_eq_true]
  intro v hv
  obtain ⟨y, _, rfl⟩ := List.mem_map.mp hv
  rfl
def spName : Sp := fun vs H Q _ => ∃ (t c u : Addr) (cs : List Int) (us : List Str), vs = [.ref t, .ref u] ∧ TapeAt H t c cs ∧ H u = some (.lst (us.map V.str)) ∧ u ≠ c ∧ us.length ≤ 25 ∧
  ∀ z H', nameOk z → z ∉ us → TapeAt H' t c cs → H' u = some (.lst ((us ++ [z]).map V.str)) → SameXY t u H H' → Q (.str z) H'
/-! ### columns -/
def colNs (cols : List Col) : List Str := cols.map (·.n)
structure ColsOk (us : List Str) (cols : List Col) : Prop where
  nd : (colNs cols).Nodup
  fr : ∀ n ∈ colNs cols, n ∉ us ∧ nameOk n
  kd : ∀ c ∈ cols, c.k = ("int" : Str) ∨ c.k = ("text" : Str)
  hd : ∀ c, cols[0]? = some c → c.b = false
def spColumns : Sp := fun vs H Q _ => ∃ (t c u : Addr) (cs : List Int) (us : List Str) (many : Int), vs = [.ref t, .ref u, .int many] ∧ TapeAt H t c cs ∧ H u = some (.lst (us.map V.str)) ∧ u ≠ c ∧ 0 ≤ many ∧ many ≤ 8 ∧ (us.length : Int) + many ≤ 25 ∧
  ∀ L cols xs H', H L = none → H' L = some (.lst xs) → TpL H' xs (cols.map colD) → (cols.length : Int) = many + 1 → ColsOk us cols → TapeAt H' t c cs → H' u = some (.lst ((us ++ colNs cols).map V.str)) → SameXY t u H H' → Q (.ref L) H'
/-- a list of columns stands at L -/
def ColsAt (H : Hp) (L : Addr) (cols : List Col) : Prop := ∃ xs, H L = some (.lst xs) ∧ TpL H xs (cols.map colD)
theorem ColsAt.mono {H H' : Hp} {L : Addr} {cols : List Col} (h : ColsAt H L cols) (k : KeepT H H') (e : ∀ o, H L = some o → H' L = some o) : ColsAt H' L cols := by
  obtain ⟨xs, h1, h2⟩ := h
  exact ⟨xs, e _ h1, h2.mono k⟩
theorem ColsAt.get {H : Hp} {L : Addr} {cols : List Col} (h : ColsAt H L cols) {i : Nat} {col : Col} (e : cols[i]? = some col) : ∃ xs a, H L = some (.lst xs) ∧ xs[i]? = some (.ref a) ∧ H a = some (.tup [.str col.n, .str col.k, .bl col.b]) := by
  obtain ⟨xs, h1, h2⟩ := h
  obtain ⟨v, e1, e2⟩ := h2.get' (i := i) (d := colD col) (by rw [List.getElem?_map, e]; rfl)
  obtain ⟨a, rfl, e3⟩ := col_at e2
  exact ⟨xs, a, h1, e1, e3⟩
def spNames : Sp := fun vs H Q _ => ∃ (L : Addr) (cols : List Col), vs = [.ref L] ∧ ColsAt H L cols ∧ cols.length ≤ 100 ∧ ∀ N H', H N = none → Same H H' → H' N = some (.lst ((colNs cols).map V.str)) → Q (.ref N) H'
/-- the values of a row behind the key -/
def RestOf (cols : List Col) (vs : List V) : Prop := vs.length + 1 = cols.length ∧ ∀ (i : Nat) (col : Col) (v : V), cols[i + 1]? = some col → vs[i]? = some v → ValOf col.k col.b v
def spRest : Sp := fun vs H Q _ => ∃ (t c L : Addr) (cs : List Int) (cols : List Col), vs = [.ref t, .ref L] ∧ TapeAt H t c cs ∧ ColsAt H L cols ∧ 0 < cols.length ∧ cols.length ≤ 100 ∧
  ∀ p ws H', H p = none → H' p = some (.tup ws) → RestOf cols ws → TapeAt H' t c cs → SameX t H H' → Q (.ref p) H'
/-! ### clauses and conditions -/
def ClOk (cols : List Col) (cl : Cl) : Prop := PyData.strOk cl.op = true ∧ ∃ col ∈ cols, cl.n = col.n ∧ (((cl.op = ("null" : Str) ∨ cl.op = ("given" : Str)) ∧ cl.v = .non) ∨
  ((cl.op ≠ ("null" : Str) ∧ cl.op ≠ ("given" : Str)) ∧ ValOf col.k false cl.v))
theorem ClOk.scal {cols : List Col} {cl : Cl} (h : ClOk cols cl) : isScal cl.v = true := by
  obtain ⟨_, col, _, _, ⟨_, e⟩ | ⟨_, e⟩⟩ := h
  · rw [e]; rfl
  · exact e.scal
def spClause : Sp := fun vs H Q _ => ∃ (t c L : Addr) (cs : List Int) (cols : List Col), vs = [.ref t, .ref L] ∧ TapeAt H t c cs ∧ ColsAt H L cols ∧ 0 < cols.length ∧ cols.length ≤ 100 ∧
  ∀ v cl H', Tp H' v (clD cl) → ClOk cols cl → TapeAt H' t c cs → SameX t H H' → Q v H'
def spCond : Sp := fun vs H Q _ => ∃ (t c L : Addr) (cs : List Int) (cols : List Col), vs = [.ref t, .ref L] ∧ TapeAt H t c cs ∧ ColsAt H L cols ∧ 0 < cols.length ∧ cols.length ≤ 100 ∧
  ∀ v cond H', Tp H' v (condD cond) → (∀ a ∈ cond, ∀ cl ∈ a, ClOk cols cl) → cond.length ≤ 4 → (∀ a ∈ cond, a.length ≤ 4) → TapeAt H' t c cs → SameX t H H' → Q v H'
theorem at_ofN {α : Type} {xs : List α} {z : Int} {j : Nat} {v : α} (e : z = (j : Int)) (h : xs[j]? = some v) : atI xs z = some v := by rw [e]; exact atI_nat h
theorem getD_some {vs : List V} {i : Nat} {v : V} (h : vs[i]? = some v) : vs.getD i .non = v := by rw [List.getD_eq_getElem?_getD, h]; rfl
theorem fit_of {cols : List Col} {row : List V} (nd : (colNs cols).Nodup) (hl : row.length = cols.length) (hv : ∀ (i : Nat) (col : Col) (v : V), cols[i]? = some col → row[i]? = some v → ValOf col.k col.b v) {cl : Cl} (h : ClOk cols cl) : ClFit (colNs cols) row cl := by
  obtain ⟨_, col, hc, e, h⟩ := h
  have hn : cl.n ∈ colNs cols := by rw [e]; exact List.mem_map.mpr ⟨col, hc, rfl⟩
  refine ⟨hn, ?_⟩
  rcases h with ⟨h, _⟩ | ⟨_, hw⟩
  · rcases h with h | h
    · exact .inl h
    · exact .inr (.inl h)
  · obtain ⟨j, e1, e2, e3, _⟩ := idx_str hn
    have hj : j < cols.length := by unfold colNs at e2; rwa [List.length_map] at e2
    have ec : cols[j]? = some cols[j] := List.getElem?_eq_getElem hj
    have en : cols[j].n = col.n := by
      unfold colNs at e3
      rw [List.getElem?_map, ec] at e3
      exact (Option.some.inj e3).trans e
    have eq : cols[j] = col := by
      obtain ⟨i, hi, ei⟩ := List.getElem_of_mem hc
      have a1 : (colNs cols)[i]? = some col.n := by unfold colNs; rw [List.getElem?_map, List.getElem?_eq_getElem hi, ei]; rfl
      have a2 : (colNs cols)[j]? = some col.n := by unfold colNs; rw [List.getElem?_map, ec]; exact congrArg some en
      have := nd_ix nd a1 a2
      subst this
      exact ei
    have er : row[j]? = some row[j] := List.getElem?_eq_getElem (by omega)
    have ea : at_ (colNs cols) row cl.n = row[j] := by unfold at_; rw [← e1]; exact getD_some er
    rw [ea]
    have := (hv j col row[j] (by rw [ec, eq]) er).alike hw
    exact .inr (.inr this)
theorem alike_self {v w : V} (h : Alike v w) : Alike v v := by
  rcases h with ⟨a, b, rfl, rfl⟩ | ⟨a, b, rfl, rfl⟩
  · exact .inl ⟨a, a, rfl, rfl⟩
  · exact .inr ⟨a, a, rfl, rfl⟩
theorem cut_tail (xs : List V) : cutV xs (some 1) none = xs.drop 1 := by
  unfold cutV
  have e1 : HT.sIx xs.length 0 (some 1) = min 1 xs.length := HT.sIx_nat _ _ 1
  have e2 : HT.sIx xs.length xs.length none = xs.length := rfl
  rw [e1, e2]
  cases xs with
  | nil => rfl
  | cons x r =>
    have e3 : min 1 (x :: r).length = 1 := by rw [List.length_cons]; omega
    rw [e3, List.take_of_length_le (by rw [List.length_drop]; omega)]
end Lt

set_option autoImplicit false
namespace Lt
open PySem L2 TL
open C8 (pss_cut)
/-! ## numbers as texts -/
theorem takes_no {X : Cx} : Takes X (fun _ _ _ _ => False) := fun u s' h => by
  obtain ⟨_, _, _, _, _, _, _, _, _, _, _, _, _, _, _, _, bad⟩ := h
  exact bad.elim
def dgL (L : List Nat) : List Nat := if L.head? = some 45 then L.tail else L
def numI (L : List Nat) : Int := if L.head? = some 45 then -((NumText.digitsVal (dgL L) : Nat) : Int) else ((NumText.digitsVal (dgL L) : Nat) : Int)
def shape (L : List Nat) : Prop := dgL L ≠ [] ∧ (dgL L).length ≤ 9 ∧ NumText.AllDigits (dgL L)
def canon (L : List Nat) : Prop := shape L ∧ ((dgL L).head? = some 48 → L = [48])
instance (l : List Nat) : Decidable (NumText.AllDigits l) := by unfold NumText.AllDigits; exact inferInstance
instance (L : List Nat) : Decidable (shape L) := by unfold shape; exact inferInstance
instance (L : List Nat) : Decidable (canon L) := by unfold canon; exact inferInstance
theorem val_snoc (l : List Nat) (d : Nat) : NumText.digitsVal (l ++ [d]) = NumText.digitsVal l * 10 + (d - 48) := by
  unfold NumText.digitsVal
  rw [List.foldl_append]
  rfl
theorem fold_pos : ∀ (l : List Nat) (a : Nat), 1 ≤ a → 1 ≤ l.foldl (fun acc c => acc * 10 + (c - 48)) a
  | [], a, h => h
  | c :: r, a, h => fold_pos r (a * 10 + (c - 48)) (by omega)
theorem val_pos {l : List Nat} (h : NumText.AllDigits l) (hn : l ≠ []) (h0 : l.head? ≠ some 48) : 1 ≤ NumText.digitsVal l := by
  cases l with
  | nil => exact absurd rfl hn
  | cons c r =>
    have hc := h.head
    have : c ≠ 48 := fun e => h0 (by rw [e]; rfl)
    unfold NumText.digitsVal
    rw [List.foldl_cons]
    exact fold_pos r (0 * 10 + (c - 48)) (by omega)
theorem num_of : ∀ (n : Nat) (l : List Nat), l.length = n → NumText.AllDigits l → l ≠ [] → l.head? ≠ some 48 → numL (NumText.digitsVal l) = l := by
  intro n
  induction n with
  | zero => intro l hl _ hn; exact absurd (List.eq_nil_of_length_eq_zero hl) hn
  | succ n ih =>
    intro l hl h hn h0
    have e := List.dropLast_concat_getLast hn
    generalize l.getLast hn = d at e
    generalize l.dropLast = l' at e
    subst e
    have hd : 48 ≤ d ∧ d ≤ 57 := h d (by simp)
    rw [val_snoc]
    by_cases e0 : l' = []
    · subst e0
      have hd0 : d ≠ 48 := fun z => h0 (by rw [z]; rfl)
      have ev : NumText.digitsVal [] * 10 + (d - 48) = d - 48 := by show 0 * 10 + (d - 48) = d - 48; omega
      rw [ev, numL_lt (by omega)]
      show [48 + (d - 48)] = [d]
      rw [show 48 + (d - 48) = d by omega]
    · have h' : NumText.AllDigits l' := fun c hc => h c (List.mem_append.mpr (.inl hc))
      have h0' : l'.head? ≠ some 48 := by
        cases l' with
        | nil => exact absurd rfl e0
        | cons a r => exact h0
      have pos := val_pos h' e0 h0'
      have hl' : l'.length = n := by rw [List.length_append] at hl; simpa using hl
      rw [numL_step (by omega)]
      have e1 : (NumText.digitsVal l' * 10 + (d - 48)) / 10 = NumText.digitsVal l' := by omega
      have e2 : 48 + (NumText.digitsVal l' * 10 + (d - 48)) % 10 = d := by omega
      rw [e1, e2, ih l' hl' h' e0 h0']
theorem num_head (n : Nat) (h : 1 ≤ n) : (numL n).head? ≠ some 48 := by
  induction n using Nat.strongRecOn with
  | _ n ih =>
    by_cases h1 : n < 10
    · rw [numL_lt h1]
      intro e
      have := Option.some.inj e
      omega
    · rw [numL_step (by omega)]
      have := ih (n / 10) (by omega) (by omega)
      cases e : numL (n / 10) with
      | nil => exact absurd e (numL_ne _)
      | cons a r => rw [e] at this; exact this
theorem num_zero : numL 0 = [48] := numL_lt (by decide)
/-- the number written down again is the text exactly if the text is canonical -/
theorem canon_iff {L : List Nat} (h : shape L) : tl (Str.ofString (toString (numI L))) = L ↔ canon L := by
  obtain ⟨h1, h2, h3⟩ := id h
  rw [tl_int]
  by_cases hs : L.head? = some 45
  · have eL : L = 45 :: dgL L := by
      unfold dgL
      rw [if_pos hs]
      cases L with
      | nil => cases hs
      | cons a r => cases hs; rfl
    have en : numI L = -((NumText.digitsVal (dgL L) : Nat) : Int) := by unfold numI; rw [if_pos hs]
    rw [en]
    generalize hD : dgL L = D at *
    by_cases h0 : D.head? = some 48
    · have nc : ¬ canon L := fun c => by
        have := c.2 (by rw [hD]; exact h0)
        rw [this] at hs
        cases hs
      refine iff_of_false ?_ nc
      intro e
      by_cases hv : NumText.digitsVal D = 0
      · rw [hv] at e
        rw [if_neg (by decide)] at e
        have e' : numL 0 = L := e
        rw [num_zero] at e'
        rw [← e'] at hs
        cases hs
      · rw [if_pos (by omega), Int.natAbs_neg, Int.natAbs_natCast, eL] at e
        have e1 := (List.cons.inj e).2
        exact num_head _ (by omega) (e1 ▸ h0)
    · refine iff_of_true ?_ ⟨h, fun z => absurd (by rw [hD] at z; exact z) h0⟩
      have := val_pos h3 h1 h0
      rw [if_pos (by omega), Int.natAbs_neg, Int.natAbs_natCast, num_of _ D rfl h3 h1 h0]
      exact eL.symm
  · have eL : dgL L = L := by unfold dgL; rw [if_neg hs]
    have en : numI L = ((NumText.digitsVal L : Nat) : Int) := by unfold numI; rw [if_neg hs, eL]
    rw [en, if_neg (by omega), Int.natAbs_natCast]
    unfold canon
    rw [eL] at h1 h2 h3 ⊢
    by_cases h0 : L.head? = some 48
    · constructor
      · intro e
        refine ⟨h, fun _ => ?_⟩
        by_cases hv : NumText.digitsVal L = 0
        · rw [hv, num_zero] at e; exact e.symm
        · exact absurd (e ▸ h0) (num_head _ (by omega))
      · rintro ⟨_, c⟩
        rw [c h0]
        decide +kernel
    · exact iff_of_true (num_of _ L rfl h3 h1 h0) ⟨h, fun z => absurd z h0⟩
theorem int_of {z : Str} (h : shape (tl z)) : intText? z = some (numI (tl z)) := by
  obtain ⟨h1, h2, h3⟩ := id h
  by_cases hs : (tl z).head? = some 45
  · have eL : tl z = 45 :: dgL (tl z) := by
      unfold dgL
      rw [if_pos hs]
      cases e : tl z with
      | nil => rw [e] at hs; cases hs
      | cons a r => rw [e] at hs; cases hs; rfl
    have l : z.length ≤ 4300 := by rw [len_tl, eL, List.length_cons]; omega
    have e := intText_neg (x := z) eL h3 h1 l
    rw [e]
    unfold numI
    rw [if_pos hs]
  · have eL : dgL (tl z) = tl z := by unfold dgL; rw [if_neg hs]
    rw [eL] at h1 h2 h3
    have e := intText_digits (x := z) h3 h1 (by rw [len_tl]; omega)
    rw [e]
    unfold numI
    rw [if_neg hs, eL]
theorem len_shape {z : Str} (h : shape (tl z)) : z.length ≤ 10 := by
  obtain ⟨_, h2, _⟩ := h
  rw [len_tl]
  unfold dgL at h2
  split at h2
  · rw [List.length_tail] at h2; omega
  · omega
theorem small_num {L : List Nat} (h : shape L) : -999999999 ≤ numI L ∧ numI L ≤ 999999999 := by
  obtain ⟨_, h2, h3⟩ := h
  have b : ∀ (l : List Nat), NumText.AllDigits l → NumText.digitsVal l < 10 ^ l.length := by
    intro l
    have g : ∀ (n : Nat) (l : List Nat), l.length = n → NumText.AllDigits l → NumText.digitsVal l < 10 ^ n := by
      intro n
      induction n with
      | zero => intro l hl _; rw [List.eq_nil_of_length_eq_zero hl]; decide
      | succ n ih =>
        intro l hl h
        have hn : l ≠ [] := by intro z; rw [z] at hl; cases hl
        have e := List.dropLast_concat_getLast hn
        generalize l.getLast hn = d at e
        generalize l.dropLast = l' at e
        subst e
        have hd : 48 ≤ d ∧ d ≤ 57 := h d (by simp)
        have hl' : l'.length = n := by rw [List.length_append] at hl; simpa using hl
        have := ih l' hl' (fun c hc => h c (List.mem_append.mpr (.inl hc)))
        rw [val_snoc, Nat.pow_succ]
        omega
    exact g l.length l rfl
  have h4 := b _ h3
  have h5 : (10 : Nat) ^ (dgL L).length ≤ 10 ^ 9 := Nat.pow_le_pow_right (by decide) h2
  have h6 : NumText.digitsVal (dgL L) ≤ 999999999 := by
    have : (10 : Nat) ^ 9 = 1000000000 := by decide
    omega
  unfold numI
  split <;> omega
theorem dec_ascii : ∀ c : Nat, c < 127 → Unicode.isDecimal c = decide (48 ≤ c ∧ c ≤ 57) := by decide +kernel
theorem isdec {z : Str} (h : ∀ c ∈ tl z, chOk c) : Txt.isdecimal z = decide (tl z ≠ [] ∧ NumText.AllDigits (tl z)) := by
  unfold PySem.Txt.isdecimal
  rw [← Array.all_toList, Bool.eq_iff_iff, Bool.and_eq_true, decide_eq_true_iff, List.all_eq_true, decide_eq_true_iff]
  have e : z.length = (tl z).length := len_tl z
  constructor
  · rintro ⟨a, b⟩
    refine ⟨fun z0 => by rw [z0] at e; simp at e; omega, fun c hc => ?_⟩
    have := b c hc
    rw [dec_ascii c (by have := (h c hc).2.1; omega)] at this
    exact of_decide_eq_true this
  · rintro ⟨a, b⟩
    refine ⟨by have := List.length_pos_iff.mpr a; omega, fun c hc => ?_⟩
    rw [dec_ascii c (by have := (h c hc).2.1; omega)]
    exact decide_eq_true (b c hc)
theorem tl_dash : tl ("-" : Str) = [45] := by decide +kernel
theorem tl_remove (z : Str) : tl (Txt.removeprefix z ("-" : Str)) = dgL (tl z) := by
  have l1 : ("-" : Str).length = 1 := by decide +kernel
  have hsub : Builtin.Str.subAt z ("-" : Str) 0 = decide ((tl z).head? = some 45) := by
    rw [PySem.StrLaws.subAt_eq, l1, List.drop_zero]
    show ((tl z).take 1 == tl ("-" : Str)) = _
    rw [tl_dash]
    cases e : tl z with
    | nil => simp
    | cons a r =>
      by_cases h : a = 45
      · subst h; rfl
      · simp [h]
  unfold PySem.Txt.removeprefix PySem.Txt.affix dgL
  rw [hsub, l1]
  by_cases h : (tl z).head? = some 45
  · rw [if_pos (decide_eq_true h), if_pos h]
    have hp : 0 < z.length := by
      rw [len_tl]
      cases e : tl z with
      | nil => rw [e] at h; cases h
      | cons a r => simp
    have ne : (z.length - 1 == z.length) = false := by simp; omega
    show tl (if (z.length - 1 == z.length) = true then z else Builtin.Str.strSub z 1 z.length) = _
    rw [ne, if_neg Bool.false_ne_true, tl_strSub, List.take_of_length_le (by rw [List.length_drop, len_tl]; omega)]
    exact List.drop_one
  · rw [if_neg (by simpa using h), if_neg h]
theorem tl_cut1 (z : Str) : tl (cutS z none (some 1)) = (tl z).take 1 := by
  have e : tl (cutS z none (some 1)) = ((tl z).drop (HT.sIx z.length 0 none)).take (HT.sIx z.length z.length (some 1) - HT.sIx z.length 0 none) := by simp [tl, cutS]
  have e1 : HT.sIx z.length z.length (some 1) = min 1 z.length := HT.sIx_nat _ _ 1
  rw [e, e1]
  show ((tl z).drop 0).take (min 1 z.length - 0) = _
  rw [List.drop_zero, Nat.sub_zero, len_tl]
  cases tl z with
  | nil => rfl
  | cons a r => rw [show min 1 (a :: r).length = 1 by rw [List.length_cons]; omega]
theorem tl_cut2 (z : Str) : tl (cutS z (some 1) none) = (tl z).drop 1 := by
  have e : tl (cutS z (some 1) none) = ((tl z).drop (HT.sIx z.length 0 (some 1))).take (HT.sIx z.length z.length none - HT.sIx z.length 0 (some 1)) := by simp [tl, cutS]
  have e1 : HT.sIx z.length 0 (some 1) = min 1 z.length := HT.sIx_nat _ _ 1
  rw [e, e1]
  show ((tl z).drop (min 1 z.length)).take (z.length - min 1 z.length) = _
  rw [len_tl]
  cases tl z with
  | nil => rfl
  | cons a r =>
    rw [show min 1 (a :: r).length = 1 by rw [List.length_cons]; omega, List.take_of_length_le (by rw [List.length_drop]; omega)]
theorem first_dash (z : Str) : (cutS z none (some 1) = ("-" : Str)) ↔ (tl z).head? = some 45 := by
  constructor
  · intro e
    have e1 := congrArg tl e
    rw [tl_cut1, tl_dash] at e1
    cases h : tl z with
    | nil => rw [h] at e1; cases e1
    | cons a r => rw [h] at e1; simp at e1; rw [e1]; rfl
  · intro e
    refine ext_tl ?_
    rw [tl_cut1, tl_dash]
    cases h : tl z with
    | nil => rw [h] at e; cases e
    | cons a r => rw [h] at e; cases e; rfl
theorem digit_in : ∀ k : Nat, k < 10 → Txt.index0 ("0123456789" : Str) (one (48 + k)) = some k := by decide +kernel
theorem digits_tl : ∀ c : Nat, c < 127 → (c ∈ ("0123456789" : Str).cps.toList ↔ (48 ≤ c ∧ c ≤ 57)) := by decide +kernel
end Lt

set_option autoImplicit false
namespace Lt
open PySem L2 TL
open C8 (pss_cut)
/-! ## walks within comprehensions; tuples cut and joined; data that are the same -/
theorem inner {J : It} {n : Nat} {G : Hp → Prop} {Y : Nat → Hp → V → Hp → Prop} (wk : Walk J n G Y) {B : V → Hp → (Hp → Prop) → Prop} {Ha : Hp} {Nx : Hp → Prop} (Pv : Nat → Hp → Prop)
    (h0 : Pv 0 Ha) (hG : ∀ i Hb, i ≤ n → Pv i Hb → G Hb) (hs : ∀ i x Hb Hc, i < n → Pv i Hb → Y i Hb x Hc → B x Hc (Pv (i + 1))) (hd : ∀ Hb, Pv n Hb → Nx Hb) :
    ∃ W : Nat → Nat → Hp → Prop, (∃ m, W 0 m Ha) ∧ ∀ j k Hb, W j k Hb → (J.stop j Hb ∧ Nx Hb) ∨ (J.go j Hb ∧ ∃ N : Hp → Prop, (∀ Hc, N Hc → ∃ k', k' < k ∧ W (j + 1) k' Hc) ∧ ∀ x Hc, J.yld j Hb x Hc → B x Hc N) := by
  refine ⟨fun j left Hb => left + j = n ∧ Pv j Hb, ⟨n, Nat.add_zero n, h0⟩, fun j left Hb hw => ?_⟩
  obtain ⟨e, p⟩ := hw
  have g := hG j Hb (by omega) p
  rcases Nat.eq_zero_or_pos left with z | z
  · have ej : j = n := by omega
    subst ej
    exact .inl ⟨wk.stops Hb g, hd Hb p⟩
  · have lt : j < n := by omega
    exact .inr ⟨wk.goes j Hb lt g, Pv (j + 1), fun Hc pc => ⟨left - 1, by omega, by omega, pc⟩, fun x Hc y => hs j x Hb Hc lt p (wk.yields j Hb x Hc lt g y)⟩
def rTup (K : PySem.W.Frag) : List V → Hp → VK → Prop := fun xs H Q => ∃ p ys, xs = [.ref p] ∧ ((SqL K H p ys ∧ ∀ l, H l = none → Q (.ref l) (upd H l (.tup ys))) ∨ (SqT K H p ys ∧ Q (.ref p) H))
theorem ct {X : Cx} : CallR X (.type "tuple") (rTup X.K) := call_tuple_of
theorem cat_any {K : PySem.W.Frag} {H : Hp} {Q : VK} {a b : Addr} {xs ys : List V} (ha : H a = some (.tup xs)) (hb : H b = some (.tup ys)) (hl : xs.length + ys.length ≤ 1000)
    (q : ∀ p H', H' p = some (.tup (xs ++ ys)) → Same H H' → Q (.ref p) H') : rCatA K (.ref a) (.ref b) H Q := by
  refine ⟨a, b, xs, ys, rfl, rfl, SqT.of ha, SqT.of hb, Nat.le_of_lt (small1000 hl), fun e => ?_, fun _ e => ?_, fun _ _ p hp => q p _ upd_same (same_new hp _)⟩
  · subst e; exact q b H hb (Same.refl _)
  · subst e; exact q a H (by rw [List.append_nil]; exact ha) (Same.refl _)
theorem cut_any {K : PySem.W.Frag} {H : Hp} {Q : VK} {a : Addr} {xs : List V} {lo hi : Option Int} (ha : H a = some (.tup xs))
    (q : ∀ p H', H' p = some (.tup (cutV xs lo hi)) → Same H H' → Q (.ref p) H') : rSlA K (.ref a) lo hi H Q := by
  refine ⟨a, xs, rfl, SqT.of ha, fun e => ?_, fun _ p hp => q p _ upd_same (same_new hp _)⟩
  refine q a H ?_ (Same.refl _)
  rw [ha]
  unfold cutV
  rw [e.1, e.2, List.drop_zero, Nat.sub_zero, List.take_length]
theorem cut_front (xs : List V) (j : Nat) (h : j ≤ xs.length) : cutV xs none (some (j : Int)) = xs.take j := by
  unfold cutV
  rw [HT.sIx_nat, HT.sIx_none, List.drop_zero, Nat.sub_zero, Nat.min_eq_left h]
theorem cut_back (xs : List V) (j : Nat) (h : j ≤ xs.length) : cutV xs (some (j : Int)) none = xs.drop j := by
  unfold cutV
  rw [HT.sIx_nat, HT.sIx_none, Nat.min_eq_left h, List.take_of_length_le (by rw [List.length_drop]; omega)]
theorem TpL.take {H : Hp} : ∀ {ds : List D} {vs : List V} (n : Nat), TpL H vs ds → TpL H (vs.take n) (ds.take n)
  | _, _, 0, _ => .nil
  | [], _, n + 1, h => by cases h; exact .nil
  | d :: ds, _, n + 1, h => by cases h with | cons h r => exact .cons h (TpL.take n r)
theorem TpL.drop {H : Hp} : ∀ {ds : List D} {vs : List V} (n : Nat), TpL H vs ds → TpL H (vs.drop n) (ds.drop n)
  | _, _, 0, h => h
  | [], _, n + 1, h => by cases h; exact .nil
  | d :: ds, _, n + 1, h => by cases h with | cons h r => exact TpL.drop n r
theorem TpL.app {H : Hp} : ∀ {ds es : List D} {vs ws : List V}, TpL H vs ds → TpL H ws es → TpL H (vs ++ ws) (ds ++ es)
  | [], _, _, _, h, g => by cases h; exact g
  | d :: ds, _, _, _, h, g => by cases h with | cons h r => exact .cons h (TpL.app r g)
/-- two that bear the same data -/
theorem same_t {K : PySem.W.Frag} {H : Hp} {n : Nat} {v w : V} {ds : List D} (h : Tp H v (.t ds)) (g : Tp H w (.t ds)) (hl : ds.length ≤ 1000) (e : ∀ d ∈ ds, ∀ x y, Tp H x d → Tp H y d → SameV K H n x y) : SameV K H (n + 1) v w := by
  obtain ⟨a, xs, rfl, ha, ra⟩ := t_at h
  obtain ⟨b, ys, rfl, hb, rb⟩ := t_at g
  refine Or.inr (Or.inr ⟨a, b, xs, ys, rfl, rfl, ha, hb, by rw [ra.length, rb.length], by rw [ra.length]; exact hl, fun i u v hu hv => ?_⟩)
  obtain ⟨d, e1, e2⟩ := ra.get hu
  obtain ⟨d', e3, e4⟩ := rb.get hv
  rw [e1] at e3
  cases e3
  exact e d (List.mem_of_getElem? e1) u v e2 e4
theorem same_s {K : PySem.W.Frag} {H : Hp} {n : Nat} {v w x : V} (h : Tp H v (.s x)) (g : Tp H w (.s x)) : SameV K H (n + 1) v w := by
  cases h with
  | s h => cases g with | s g => exact SameV.sc h
theorem same_cl {K : PySem.W.Frag} {H : Hp} {n : Nat} {v w : V} {c : Cl} (h : Tp H v (clD c)) (g : Tp H w (clD c)) : SameV K H (n + 2) v w := by
  refine same_t h g (by show 3 ≤ 1000; decide) fun d hd x y hx hy => ?_
  simp only [List.mem_cons, List.not_mem_nil, or_false] at hd
  rcases hd with rfl | rfl | rfl <;> exact same_s hx hy
theorem same_cond {K : PySem.W.Frag} {H : Hp} {n : Nat} {v w : V} {c : Cond} (h : Tp H v (condD c)) (g : Tp H w (condD c)) (h1 : c.length ≤ 1000) (h2 : ∀ a ∈ c, a.length ≤ 1000) : SameV K H (n + 4) v w := by
  refine same_t h g (by rw [List.length_map]; exact h1) fun d hd x y hx hy => ?_
  obtain ⟨a, ha, rfl⟩ := List.mem_map.mp hd
  refine same_t hx hy (by rw [List.length_map]; exact h2 a ha) fun d hd x y hx hy => ?_
  obtain ⟨cl, _, rfl⟩ := List.mem_map.mp hd
  exact same_cl hx hy
/-! ### what conditions mention; renaming -/
def mentM (n : Str) (c : Cond) : Bool := c.any fun a => a.any fun cl => decide (cl.n = n)
def renCl (o n : Str) (cl : Cl) : Cl := if cl.n = o then ⟨n, cl.op, cl.v⟩ else cl
def renM (o n : Str) (c : Cond) : Cond := c.map fun a => a.map (renCl o n)
/-- any, all of one list after another -/
def flat (c : Cond) : List Cl := c.flatten
theorem any_flat (c : Cond) (f : Cl → Bool) : (c.flatten).any f = c.any fun a => a.any f := by
  induction c with
  | nil => rfl
  | cons a r ih => rw [List.flatten_cons, List.any_append, List.any_cons, ih]
theorem all_flat (c : Cond) (f : Cl → Bool) : (c.flatten).all f = c.all fun a => a.all f := by
  induction c with
  | nil => rfl
  | cons a r ih => rw [List.flatten_cons, List.all_append, List.all_cons, ih]
theorem flat_step {c : Cond} {i j : Nat} {a : List Cl} {x : Cl} (h : c[i]? = some a) (g : a[j]? = some x) : (c.take i).flatten ++ a.take (j + 1) = ((c.take i).flatten ++ a.take j) ++ [x] := by
  rw [List.take_add_one, g, List.append_assoc]; rfl
theorem flat_next {c : Cond} {i : Nat} {a : List Cl} (h : c[i]? = some a) : (c.take (i + 1)).flatten = (c.take i).flatten ++ a := by
  rw [List.take_add_one, h, List.flatten_append]
  simp
theorem map2_snoc {α β γ : Type} (f : α → β) (g : β → γ) (l : List α) (x : α) : ((l ++ [x]).map f).map g = (l.map f).map g ++ [g (f x)] := by simp
/-- a value that a clause may bear -/
def ClG (cl : Cl) : Prop := cl.v = .non ∨ (∃ i : Int, cl.v = .int i ∧ -999999999 ≤ i ∧ i ≤ 999999999) ∨ ∃ z : Str, cl.v = .str z ∧ z.length ≤ 30 ∧ ∀ c ∈ tl z, chOk c
theorem ClG.scal {cl : Cl} (h : ClG cl) : isScal cl.v = true := by
  rcases h with e | ⟨i, e, _⟩ | ⟨z, e, _⟩ <;> rw [e] <;> rfl
theorem ClOk.g {cols : List Col} {cl : Cl} (h : ClOk cols cl) : ClG cl := by
  obtain ⟨_, col, _, _, ⟨_, e⟩ | ⟨_, e⟩⟩ := h
  · exact .inl e
  · rcases e with ⟨e, _⟩ | ⟨_, i, e, h1, h2⟩ | ⟨_, z, e, h1, h2⟩
    · cases e
    · exact .inr (.inl ⟨i, e, h1, h2⟩)
    · exact .inr (.inr ⟨z, e, h1, h2⟩)
theorem ClG.thing {cl : Cl} {H : Hp} (h : ClG cl) : Thing H cl.v := by
  rcases h with e | ⟨i, e, _⟩ | ⟨z, e, h1, _⟩ <;> rw [e]
  · exact .non
  · exact .int i
  · exact .str z (by omega)
/-- fits_kind -/
def fitsK (v : V) (k : Str) (b : Bool) : Bool := if v = .non then b else goodV v && decide (kindOf v = k)
def spFitsKind : Sp := fun vs H Q _ => ∃ (v : V) (k : Str) (b : Bool), vs = [v, .str k, .bl b] ∧ Thing H v ∧ ∀ H', Same H H' → Q (.bl (fitsK v k b)) H'
/-- the kind of the column called n -/
def kindAt (cols : List Col) (n : Str) : Str := (cols.map (·.k)).getD ((colNs cols).idxOf n) ""
def clFits (cols : List Col) (cl : Cl) : Bool := decide (cl.n ∈ colNs cols) && fitsK cl.v (kindAt cols cl.n) true
def fitsM (cols : List Col) (c : Cond) : Bool := c.all fun a => a.all (clFits cols)
def kindsD (cols : List Col) : List (Key × V) := cols.map fun c => ((Sum.inr c.n : Key), V.str c.k)
theorem kinds_get : ∀ (cols : List Col) (n : Str), valV (kindsD cols) (Sum.inr n : Key) = if n ∈ colNs cols then some (.str (kindAt cols n)) else none
  | [], n => by simp [kindsD, colNs, valV]
  | c :: r, n => by
    have ih := kinds_get r n
    by_cases h : c.n = n
    · have e1 : valV (kindsD (c :: r)) (Sum.inr n : Key) = some (.str c.k) := by
        show valV ((((Sum.inr c.n : Key), V.str c.k)) :: kindsD r) _ = _
        rw [valV_pos (by rw [h])]
      have e2 : n ∈ colNs (c :: r) := by rw [← h]; exact List.mem_cons_self
      have e3 : kindAt (c :: r) n = c.k := by
        unfold kindAt colNs
        rw [List.map_cons, List.map_cons, List.idxOf_cons, h, beq_self_eq_true]
        rfl
      rw [e1, if_pos e2, e3]
    · have e1 : valV (kindsD (c :: r)) (Sum.inr n : Key) = valV (kindsD r) (Sum.inr n) := by
        show valV ((((Sum.inr c.n : Key), V.str c.k)) :: kindsD r) _ = _
        rw [valV_neg (fun z => h (Sum.inr.inj z))]
      have e2 : (n ∈ colNs (c :: r)) ↔ n ∈ colNs r := by
        unfold colNs
        rw [List.map_cons, List.mem_cons]
        exact ⟨fun z => z.resolve_left (fun w => h w.symm), .inr⟩
      have e3 : kindAt (c :: r) n = kindAt r n := by
        unfold kindAt colNs
        rw [List.map_cons, List.map_cons, List.idxOf_cons, beq_false_of_ne h]
        rfl
      rw [e1, ih, e3]
      by_cases g : n ∈ colNs r
      · rw [if_pos g, if_pos (e2.mpr g)]
      · rw [if_neg g, if_neg (fun z => g (e2.mp z))]
theorem kinds_put {cols : List Col} (nd : (colNs cols).Nodup) {i : Nat} {c : Col} (h : cols[i]? = some c) : putK (kindsD (cols.take i)) (Sum.inr c.n : Key) (.str c.k) = kindsD (cols.take (i + 1)) := by
  have hno : valV (kindsD (cols.take i)) (Sum.inr c.n : Key) = none := by
    rw [kinds_get, if_neg]
    intro hm
    unfold colNs at hm
    obtain ⟨d, hd, e⟩ := List.mem_map.mp hm
    obtain ⟨j, hj, ej⟩ := List.getElem_of_mem hd
    rw [List.length_take] at hj
    rw [List.getElem_take] at ej
    have a1 : (colNs cols)[j]? = some c.n := by unfold colNs; rw [List.getElem?_map, List.getElem?_eq_getElem (by omega), ej]; exact congrArg some e
    have a2 : (colNs cols)[i]? = some c.n := by unfold colNs; rw [List.getElem?_map, h]; rfl
    have := nd_ix nd a1 a2
    omega
  rw [putK_new _ hno, List.take_add_one, h]
  unfold kindsD
  rw [List.map_append]
  rfl
end Lt

set_option autoImplicit false
namespace Lt
open PySem L2 TL
open C8 (pss_cut)
/-! ## data of any form: tuples, lists, dicts, nested -/
inductive G where
  | s (v : V)
  | t (gs : List G)
  | l (gs : List G)
  | d (ks : List (Key × G))
mutual
/-- v bears the data g; the lists and dicts of it stand at the addresses D -/
inductive Gp (H : Hp) : V → G → List Addr → Prop
  | s {v : V} (h : isScal v = true) : Gp H v (.s v) []
  | t {a : Addr} {xs : List V} {gs : List G} {D : List Addr} (h : H a = some (.tup xs)) (n : xs.length ≤ 1000) (r : GpL H xs gs D) : Gp H (.ref a) (.t gs) D
  | l {a : Addr} {xs : List V} {gs : List G} {D : List Addr} (h : H a = some (.lst xs)) (n : xs.length ≤ 1000) (r : GpL H xs gs D) : Gp H (.ref a) (.l gs) (a :: D)
  | d {a : Addr} {kvs : List (Key × V)} {kgs : List (Key × G)} {D : List Addr} (h : H a = some (.dK kvs)) (n : kvs.length ≤ 1000) (nd : (kvs.map (·.1)).Nodup) (r : GpK H kvs kgs D) (f : a ∉ D) : Gp H (.ref a) (.d kgs) (a :: D)
inductive GpL (H : Hp) : List V → List G → List Addr → Prop
  | nil : GpL H [] [] []
  | cons {v : V} {g : G} {vs : List V} {gs : List G} {D E : List Addr} (h : Gp H v g D) (r : GpL H vs gs E) : GpL H (v :: vs) (g :: gs) (D ++ E)
inductive GpK (H : Hp) : List (Key × V) → List (Key × G) → List Addr → Prop
  | nil : GpK H [] [] []
  | cons {k : Key} {v : V} {g : G} {vs : List (Key × V)} {gs : List (Key × G)} {D E : List Addr} (h : Gp H v g D) (r : GpK H vs gs E) : GpK H ((k, v) :: vs) ((k, g) :: gs) (D ++ E)
end
mutual
def G.dep : G → Nat
  | .s _ => 0
  | .t gs => depL gs + 1
  | .l gs => depL gs + 1
  | .d ks => depK ks + 1
def depL : List G → Nat
  | [] => 0
  | g :: gs => max g.dep (depL gs)
def depK : List (Key × G) → Nat
  | [] => 0
  | (_, g) :: gs => max g.dep (depK gs)
end
theorem depL_mem : ∀ {gs : List G} {g : G}, g ∈ gs → g.dep ≤ depL gs
  | x :: r, g, h => by
    simp only [depL]
    rcases List.mem_cons.mp h with rfl | h
    · omega
    · have := depL_mem h; omega
theorem depK_mem : ∀ {ks : List (Key × G)} {k : Key} {g : G}, (k, g) ∈ ks → g.dep ≤ depK ks
  | (k', x) :: r, k, g, h => by
    simp only [depK]
    rcases List.mem_cons.mp h with e | h
    · cases e; omega
    · have := depK_mem h; omega
mutual
theorem Gp.frame {H H' : Hp} (kt : KeepT H H') : ∀ {g : G} {v : V} {D : List Addr}, Gp H v g D → (∀ b ∈ D, ∀ o, H b = some o → H' b = some o) → Gp H' v g D
  | .s _, _, _, h, _ => by cases h with | s h => exact .s h
  | .t gs, _, _, h, hd => by cases h with | t h n r => exact .t (kt _ _ h) n (GpL.frame kt r hd)
  | .l gs, _, _, h, hd => by cases h with | l h n r => exact .l (hd _ List.mem_cons_self _ h) n (GpL.frame kt r fun b hb => hd b (List.mem_cons_of_mem _ hb))
  | .d ks, _, _, h, hd => by cases h with | d h n nd r f => exact .d (hd _ List.mem_cons_self _ h) n nd (GpK.frame kt r fun b hb => hd b (List.mem_cons_of_mem _ hb)) f
theorem GpL.frame {H H' : Hp} (kt : KeepT H H') : ∀ {gs : List G} {vs : List V} {D : List Addr}, GpL H vs gs D → (∀ b ∈ D, ∀ o, H b = some o → H' b = some o) → GpL H' vs gs D
  | [], _, _, h, _ => by cases h; exact .nil
  | g :: gs, _, _, h, hd => by cases h with | cons h r => exact .cons (Gp.frame kt h fun b hb => hd b (List.mem_append.mpr (.inl hb))) (GpL.frame kt r fun b hb => hd b (List.mem_append.mpr (.inr hb)))
theorem GpK.frame {H H' : Hp} (kt : KeepT H H') : ∀ {gs : List (Key × G)} {vs : List (Key × V)} {D : List Addr}, GpK H vs gs D → (∀ b ∈ D, ∀ o, H b = some o → H' b = some o) → GpK H' vs gs D
  | [], _, _, h, _ => by cases h; exact .nil
  | (k, g) :: gs, _, _, h, hd => by cases h with | cons h r => exact .cons (Gp.frame kt h fun b hb => hd b (List.mem_append.mpr (.inl hb))) (GpK.frame kt r fun b hb => hd b (List.mem_append.mpr (.inr hb)))
end
theorem Gp.mono {H H' : Hp} {g : G} {v : V} {D : List Addr} (h : Gp H v g D) (e : Same H H') : Gp H' v g D := h.frame (KeepT.of e) fun b _ o z => e b o z
theorem GpL.mono {H H' : Hp} {g : List G} {v : List V} {D : List Addr} (h : GpL H v g D) (e : Same H H') : GpL H' v g D := h.frame (KeepT.of e) fun b _ o z => e b o z
theorem GpK.mono {H H' : Hp} {g : List (Key × G)} {v : List (Key × V)} {D : List Addr} (h : GpK H v g D) (e : Same H H') : GpK H' v g D := h.frame (KeepT.of e) fun b _ o z => e b o z
theorem GpL.length {H : Hp} : ∀ {gs : List G} {vs : List V} {D : List Addr}, GpL H vs gs D → vs.length = gs.length
  | [], _, _, h => by cases h; rfl
  | g :: gs, _, _, h => by cases h with | cons h r => rw [List.length_cons, List.length_cons, GpL.length r]
theorem GpL.get {H : Hp} : ∀ {gs : List G} {vs : List V} {D : List Addr} {i : Nat} {v : V}, GpL H vs gs D → vs[i]? = some v → ∃ g E, gs[i]? = some g ∧ Gp H v g E ∧ ∀ a ∈ E, a ∈ D
  | [], _, _, i, v, h, e => by cases h; simp at e
  | g :: gs, _, _, 0, v, h, e => by cases h with | cons h r => simp at e; subst e; exact ⟨g, _, rfl, h, fun a ha => List.mem_append.mpr (.inl ha)⟩
  | g :: gs, _, _, i + 1, v, h, e => by
    cases h with
    | cons h r =>
      obtain ⟨g', E, e1, e2, e3⟩ := GpL.get (i := i) r (by simpa using e)
      exact ⟨g', E, e1, e2, fun a ha => List.mem_append.mpr (.inr (e3 a ha))⟩
theorem GpK.get {H : Hp} : ∀ {gs : List (Key × G)} {vs : List (Key × V)} {D : List Addr} {i : Nat} {k : Key} {v : V}, GpK H vs gs D → vs[i]? = some (k, v) → ∃ g E, gs[i]? = some (k, g) ∧ Gp H v g E ∧ ∀ a ∈ E, a ∈ D
  | [], _, _, i, k, v, h, e => by cases h; simp at e
  | (k', g) :: gs, _, _, 0, k, v, h, e => by cases h with | cons h r => simp at e; obtain ⟨rfl, rfl⟩ := e; exact ⟨g, _, rfl, h, fun a ha => List.mem_append.mpr (.inl ha)⟩
  | (k', g) :: gs, _, _, i + 1, k, v, h, e => by
    cases h with
    | cons h r =>
      obtain ⟨g', E, e1, e2, e3⟩ := GpK.get (i := i) r (by simpa using e)
      exact ⟨g', E, e1, e2, fun a ha => List.mem_append.mpr (.inr (e3 a ha))⟩
theorem GpK.keys {H : Hp} : ∀ {gs : List (Key × G)} {vs : List (Key × V)} {D : List Addr}, GpK H vs gs D → vs.map (·.1) = gs.map (·.1)
  | [], _, _, h => by cases h; rfl
  | g :: gs, _, _, h => by cases h with | cons h r => rw [List.map_cons, List.map_cons, GpK.keys r]
theorem GpL.snoc {H : Hp} : ∀ {gs : List G} {vs : List V} {D E : List Addr} {v : V} {g : G}, GpL H vs gs D → Gp H v g E → GpL H (vs ++ [v]) (gs ++ [g]) (D ++ E)
  | [], _, _, E, v, g, h, q => by
    cases h
    have := GpL.cons q GpL.nil
    rw [List.append_nil] at this
    exact this
  | g0 :: gs, _, _, E, v, g, h, q => by
    cases h with
    | cons h r =>
      rw [List.append_assoc]
      exact .cons h (GpL.snoc r q)
theorem GpK.snoc {H : Hp} : ∀ {gs : List (Key × G)} {vs : List (Key × V)} {D E : List Addr} {k : Key} {v : V} {g : G}, GpK H vs gs D → Gp H v g E → GpK H (vs ++ [(k, v)]) (gs ++ [(k, g)]) (D ++ E)
  | [], _, _, E, k, v, g, h, q => by
    cases h
    have := GpK.cons (k := k) q GpK.nil
    rw [List.append_nil] at this
    exact this
  | g0 :: gs, _, _, E, k, v, g, h, q => by
    cases h with
    | cons h r =>
      rw [List.append_assoc]
      exact .cons h (GpK.snoc r q)
theorem valV_at : ∀ {kvs : List (Key × V)} {i : Nat} {k : Key} {v : V}, (kvs.map (·.1)).Nodup → kvs[i]? = some (k, v) → valV kvs k = some v
  | [], i, k, v, _, h => by simp at h
  | (k0, v0) :: r, 0, k, v, _, h => by simp at h; obtain ⟨rfl, rfl⟩ := h; exact valV_pos rfl
  | (k0, v0) :: r, i + 1, k, v, nd, h => by
    have h' : r[i]? = some (k, v) := by simpa using h
    rw [List.map_cons, List.nodup_cons] at nd
    have ne : ¬ k0 = k := fun e => nd.1 (by rw [e]; exact List.mem_map.mpr ⟨(k, v), List.mem_of_getElem? h', rfl⟩)
    rw [valV_neg ne]
    exact valV_at nd.2 h'
theorem upd_self {H : Hp} {a : Addr} {o : HO} (h : H a = some o) : upd H a o = H := by
  funext b
  by_cases e : b = a
  · subst e; rw [upd_same, h]
  · rw [upd_ne e]
theorem KeepT.lock {H : Hp} {a : Addr} {kvs : List (Key × V)} {o : HO} (h : H a = some (.dK kvs)) : KeepT H (L2.upd H a o) := KeepT.upd fun xs z => by rw [h] at z; cases z
/-- behind a lock -/
theorem Gp.locked {H : Hp} {g : G} {v : V} {D : List Addr} {b : Addr} {kvs : List (Key × V)} {o : HO} (h : Gp H v g D) (hb : H b = some (.dK kvs)) (n : b ∉ D) : Gp (upd H b o) v g D :=
  h.frame (KeepT.lock hb) fun c hc u z => by
    have ne : c ≠ b := fun e => by subst e; exact n hc
    rw [upd_ne ne]; exact z
theorem ty_ref {K : PySem.W.Frag} {H : Hp} {a : Addr} {o : HO} (h : H a = some o) : (∀ xs, o = .lst xs → TyX K H (.ref a) (.type "list")) ∧ (∀ xs, o = .tup xs → TyX K H (.ref a) (.type "tuple")) ∧ (∀ xs, o = .dK xs → TyX K H (.ref a) (.type "dict")) :=
  ⟨fun xs e => .base (.lst (by rw [h, e])), fun xs e => .base (.tup (by rw [h, e])), fun xs e => .base (.dK (by rw [h, e]))⟩
def spSameG (n : Nat) : Sp := fun vs H Q _ => ∃ x y g D E, vs = [x, y] ∧ Gp H x g D ∧ Gp H y g E ∧ (∀ a ∈ D, a ∉ E) ∧ g.dep < n ∧ Q (.bl true) H
def spItemsG (n : Nat) : Sp := fun vs H Q _ => ∃ (a b : Addr) (xs ys : List V) (gs : List G) (D E : List Addr), vs = [.ref a, .ref b] ∧ ((H a = some (.lst xs) ∧ H b = some (.lst ys)) ∨ (H a = some (.tup xs) ∧ H b = some (.tup ys))) ∧ xs.length ≤ 1000 ∧
  GpL H xs gs D ∧ GpL H ys gs E ∧ (∀ a ∈ D, a ∉ E) ∧ (∀ g ∈ gs, g.dep < n) ∧ Q (.bl true) H
def spCopyG (n : Nat) : Sp := fun vs H Q _ => ∃ x g D, vs = [x] ∧ Gp H x g D ∧ g.dep < n ∧ ∀ x' D' H', Gp H' x' g D' → Same H H' → (∀ a ∈ D', H a = none) → D'.Nodup → Q x' H'
mutual
theorem Gp.there {H : Hp} : ∀ {g : G} {v : V} {D : List Addr}, Gp H v g D → ∀ a ∈ D, H a ≠ none
  | .s _, _, _, h, a, ha => by cases h; cases ha
  | .t gs, _, _, h, a, ha => by cases h with | t h n r => exact GpL.there r a ha
  | .l gs, _, _, h, a, ha => by
    cases h with
    | l h n r =>
      rcases List.mem_cons.mp ha with rfl | ha
      · rw [h]; intro z; cases z
      · exact GpL.there r a ha
  | .d ks, _, _, h, a, ha => by
    cases h with
    | d h n nd r f =>
      rcases List.mem_cons.mp ha with rfl | ha
      · rw [h]; intro z; cases z
      · exact GpK.there r a ha
theorem GpL.there {H : Hp} : ∀ {g : List G} {v : List V} {D : List Addr}, GpL H v g D → ∀ a ∈ D, H a ≠ none
  | [], _, _, h, a, ha => by cases h; cases ha
  | g :: gs, _, _, h, a, ha => by
    cases h with
    | cons h r =>
      rcases List.mem_append.mp ha with ha | ha
      · exact Gp.there h a ha
      · exact GpL.there r a ha
theorem GpK.there {H : Hp} : ∀ {g : List (Key × G)} {v : List (Key × V)} {D : List Addr}, GpK H v g D → ∀ a ∈ D, H a ≠ none
  | [], _, _, h, a, ha => by cases h; cases ha
  | (k, g) :: gs, _, _, h, a, ha => by
    cases h with
    | cons h r =>
      rcases List.mem_append.mp ha with ha | ha
      · exact Gp.there h a ha
      · exact GpK.there r a ha
end
end Lt

set_option autoImplicit false
namespace Lt
open PySem L2 TL
open C8 (pss_cut)
/-! ## schemas as they stand in the heap -/
structure Tab where
  n : Str
  cols : List Col
  ch : List Cond
  un : List Str
  rf : List (Str × Str)
structure Ads where
  d : Addr
  c : Addr
  k : Addr
  u : Addr
  r : Addr
def rfD (p : Str × Str) : D := .t [.s (.str p.1), .s (.str p.2)]
theorem rf_at {H : Hp} {v : V} {p : Str × Str} (h : Tp H v (rfD p)) : ∃ a, v = .ref a ∧ H a = some (.tup [.str p.1, .str p.2]) := by
  obtain ⟨a, xs, rfl, h1, h2⟩ := t_at h
  cases h2 with
  | cons g r => cases g; cases r with
    | cons g r => cases g; cases r; exact ⟨a, rfl, h1⟩
theorem rf_mk {H : Hp} {a : Addr} {p : Str × Str} (h : H a = some (.tup [.str p.1, .str p.2])) : Tp H (.ref a) (rfD p) := .t h (.cons (.s rfl) (.cons (.s rfl) .nil))
theorem e_co_ch : ¬ ("columns" : Str) = ("checks" : Str) := by decide +kernel
theorem e_co_un : ¬ ("columns" : Str) = ("uniques" : Str) := by decide +kernel
theorem e_co_rf : ¬ ("columns" : Str) = ("references" : Str) := by decide +kernel
theorem e_ch_un : ¬ ("checks" : Str) = ("uniques" : Str) := by decide +kernel
theorem e_ch_rf : ¬ ("checks" : Str) = ("references" : Str) := by decide +kernel
theorem e_un_rf : ¬ ("uniques" : Str) = ("references" : Str) := by decide +kernel
def descD (a : Ads) : List (Key × V) := [(Sum.inr ("columns" : Str), .ref a.c), (Sum.inr ("checks" : Str), .ref a.k), (Sum.inr ("uniques" : Str), .ref a.u), (Sum.inr ("references" : Str), .ref a.r)]
theorem dd_c (a : Ads) : valV (descD a) (Sum.inr ("columns" : Str) : Key) = some (.ref a.c) := valV_pos rfl
theorem dd_k (a : Ads) : valV (descD a) (Sum.inr ("checks" : Str) : Key) = some (.ref a.k) := by unfold descD; rw [valV_neg (fun z => e_co_ch (Sum.inr.inj z)), valV_pos rfl]
theorem dd_u (a : Ads) : valV (descD a) (Sum.inr ("uniques" : Str) : Key) = some (.ref a.u) := by unfold descD; rw [valV_neg (fun z => e_co_un (Sum.inr.inj z)), valV_neg (fun z => e_ch_un (Sum.inr.inj z)), valV_pos rfl]
theorem dd_r (a : Ads) : valV (descD a) (Sum.inr ("references" : Str) : Key) = some (.ref a.r) := by unfold descD; rw [valV_neg (fun z => e_co_rf (Sum.inr.inj z)), valV_neg (fun z => e_ch_rf (Sum.inr.inj z)), valV_neg (fun z => e_un_rf (Sum.inr.inj z)), valV_pos rfl]
theorem merge_desc (a : Ads) : mergeK [] (descD a) = descD a := by
  simp [mergeK, putK, descD, e_co_ch, e_co_un, e_co_rf, e_ch_un, e_ch_rf, e_un_rf]
structure DescAt (H : Hp) (a : Ads) (t : Tab) : Prop where
  dk : H a.d = some (.dK (descD a))
  co : ColsAt H a.c t.cols
  ch : ∃ xs, H a.k = some (.lst xs) ∧ TpL H xs (t.ch.map condD)
  un : H a.u = some (.lst (t.un.map V.str))
  rf : ∃ xs, H a.r = some (.lst xs) ∧ TpL H xs (t.rf.map rfD)
def adL (a : Ads) : List Addr := [a.c, a.k, a.u, a.r]
theorem DescAt.frame {H H' : Hp} {a : Ads} {t : Tab} (h : DescAt H a t) (kt : KeepT H H') (kd : ∀ o, H a.d = some o → H' a.d = some o) (kl : ∀ b ∈ adL a, ∀ o, H b = some o → H' b = some o) : DescAt H' a t := by
  obtain ⟨h1, h2, ⟨xs, h3, h3'⟩, h4, ⟨ys, h5, h5'⟩⟩ := h
  refine ⟨kd _ h1, h2.mono kt (kl a.c (by simp [adL])), ⟨xs, kl a.k (by simp [adL]) _ h3, h3'.mono kt⟩, kl a.u (by simp [adL]) _ h4, ⟨ys, kl a.r (by simp [adL]) _ h5, h5'.mono kt⟩⟩
theorem DescAt.isL {H : Hp} {a : Ads} {t : Tab} (h : DescAt H a t) : ∀ b ∈ adL a, ∃ xs, H b = some (.lst xs) := by
  obtain ⟨h1, ⟨xs, h2, _⟩, ⟨ys, h3, _⟩, h4, ⟨zs, h5, _⟩⟩ := h
  intro b hb
  simp only [adL, List.mem_cons, List.not_mem_nil, or_false] at hb
  rcases hb with rfl | rfl | rfl | rfl
  · exact ⟨_, h2⟩
  · exact ⟨_, h3⟩
  · exact ⟨_, h4⟩
  · exact ⟨_, h5⟩
abbrev Sch := List (Ads × Tab)
def schK (s : Sch) : List (Key × V) := s.map fun p => ((Sum.inr p.2.n : Key), V.ref p.1.d)
def schN (s : Sch) : List Str := s.map fun p => p.2.n
def schL (s : Sch) : List Addr := s.flatMap fun p => adL p.1
structure SchAt (H : Hp) (S : Addr) (s : Sch) (t c : Addr) : Prop where
  sk : H S = some (.dK (schK s))
  ds : ∀ p ∈ s, DescAt H p.1 p.2
  nm : (schN s).Nodup
  dn : (t :: S :: s.map fun p => p.1.d).Nodup
  ln : (c :: schL s).Nodup
theorem sch_keys (s : Sch) : (schK s).map (·.1) = (schN s).map Sum.inr := by unfold schK schN; rw [List.map_map, List.map_map]; rfl
theorem sch_nd {s : Sch} (h : (schN s).Nodup) : ((schK s).map (·.1)).Nodup := by
  rw [sch_keys]
  exact List.Pairwise.map _ (fun a b e z => e (Sum.inr.inj z)) h
theorem sch_get {s : Sch} (h : (schN s).Nodup) {p : Ads × Tab} (hp : p ∈ s) : valV (schK s) (Sum.inr p.2.n : Key) = some (.ref p.1.d) := by
  obtain ⟨i, hi, e⟩ := List.getElem_of_mem hp
  refine valV_at (i := i) (sch_nd h) ?_
  unfold schK
  rw [List.getElem?_map, List.getElem?_eq_getElem hi, e]
  rfl
theorem sch_in {s : Sch} {n : Str} (h : n ∈ schN s) : ∃ p ∈ s, p.2.n = n := by
  obtain ⟨p, h1, h2⟩ := List.mem_map.mp h
  exact ⟨p, h1, h2⟩
theorem sch_one {s : Sch} (h : (schN s).Nodup) {p q : Ads × Tab} (hp : p ∈ s) (hq : q ∈ s) (e : p.2.n = q.2.n) : p = q := by
  obtain ⟨i, hi, ei⟩ := List.getElem_of_mem hp
  obtain ⟨j, hj, ej⟩ := List.getElem_of_mem hq
  have a1 : (schN s)[i]? = some p.2.n := by unfold schN; rw [List.getElem?_map, List.getElem?_eq_getElem hi, ei]; rfl
  have a2 : (schN s)[j]? = some p.2.n := by unfold schN; rw [List.getElem?_map, List.getElem?_eq_getElem hj, ej]; exact congrArg some e.symm
  have := nd_ix h a1 a2
  subst this
  rw [← ei, ← ej]
theorem SchAt.desc {H : Hp} {S : Addr} {s : Sch} {t c : Addr} (h : SchAt H S s t c) {p : Ads × Tab} (hp : p ∈ s) : DGet H S (.str p.2.n) (some (.ref p.1.d)) := by
  have g := DGet.k (k := (Sum.inr p.2.n : Key)) h.sk
  rw [sch_get h.nm hp] at g
  exact g
theorem DescAt.gc {H : Hp} {a : Ads} {t : Tab} (h : DescAt H a t) : DGet H a.d (.str "columns") (some (.ref a.c)) := by have g := DGet.k (k := (Sum.inr ("columns" : Str) : Key)) h.dk; rw [dd_c] at g; exact g
theorem DescAt.gk {H : Hp} {a : Ads} {t : Tab} (h : DescAt H a t) : DGet H a.d (.str "checks") (some (.ref a.k)) := by have g := DGet.k (k := (Sum.inr ("checks" : Str) : Key)) h.dk; rw [dd_k] at g; exact g
theorem DescAt.gu {H : Hp} {a : Ads} {t : Tab} (h : DescAt H a t) : DGet H a.d (.str "uniques") (some (.ref a.u)) := by have g := DGet.k (k := (Sum.inr ("uniques" : Str) : Key)) h.dk; rw [dd_u] at g; exact g
theorem DescAt.gr {H : Hp} {a : Ads} {t : Tab} (h : DescAt H a t) : DGet H a.d (.str "references") (some (.ref a.r)) := by have g := DGet.k (k := (Sum.inr ("references" : Str) : Key)) h.dk; rw [dd_r] at g; exact g
/-- the same but for the things at ex -/
def SameE (ex : List Addr) (H H' : Hp) : Prop := ∀ b o, H b = some o → b ∉ ex → H' b = some o
theorem SameE.refl (ex : List Addr) (H : Hp) : SameE ex H H := fun _ _ h _ => h
theorem SameE.trans {ex : List Addr} {H H1 H2 : Hp} (a : SameE ex H H1) (b : SameE ex H1 H2) : SameE ex H H2 := fun c o h n => b c o (a c o h n) n
theorem SameE.ofX {ex : List Addr} {t : Addr} {H H1 : Hp} (a : SameX t H H1) (h : t ∈ ex) : SameE ex H H1 := fun c o e n => a c o e (fun z => n (z ▸ h))
theorem SameE.of {ex : List Addr} {H H1 : Hp} (a : Same H H1) : SameE ex H H1 := fun c o e _ => a c o e
theorem SameE.upd {ex : List Addr} {H H1 : Hp} {p : Addr} (h : p ∈ ex) (o : HO) (a : SameE ex H H1) : SameE ex H (L2.upd H1 p o) := fun b u q n => by
  have ne : b ≠ p := fun z => n (z ▸ h)
  rw [upd_ne ne]; exact a b u q n
/-- what a schema's table may hold -/
structure TabOk (fr : List (Str × List Col)) (t : Tab) : Prop where
  nm : nameOk t.n
  co : ColsOk [] t.cols
  l0 : 1 ≤ t.cols.length
  l5 : t.cols.length ≤ 5
  c4 : t.ch.length ≤ 2
  cc : ∀ c ∈ t.ch, c.length ≤ 4 ∧ ∀ a ∈ c, a.length ≤ 4 ∧ ∀ cl ∈ a, ClOk t.cols cl
  u4 : t.un.length ≤ 4
  un : t.un.Nodup
  uc : ∀ n ∈ t.un, n ∈ colNs (t.cols.drop 1)
  r4 : t.rf.length ≤ 4
  rn : (t.rf.map (·.1)).Nodup
  rc : ∀ p ∈ t.rf, ∃ col ∈ t.cols.drop 1, col.n = p.1 ∧ p.2 ≠ t.n ∧ ∃ f ∈ fr, f.1 = p.2 ∧ ∃ kc, f.2[0]? = some kc ∧ kc.k = col.k
/-- a table that has no constraints yet -/
structure TabBare (t : Tab) : Prop where
  nm : nameOk t.n
  co : ColsOk [] t.cols
  l0 : 1 ≤ t.cols.length
  l5 : t.cols.length ≤ 5
  c0 : t.ch = []
  u0 : t.un = []
  r0 : t.rf = []
def frOf (s : Sch) : List (Str × List Col) := s.map fun p => (p.2.n, p.2.cols)
def spTable : Sp := fun vs H Q _ => ∃ (L : Addr) (cols : List Col), vs = [.ref L] ∧ ColsAt H L cols ∧ ∀ (a : Ads) (H' : Hp), (∀ n, DescAt H' a ⟨n, cols, [], [], []⟩) → Same H H' → H a.d = none → (∀ b ∈ adL a, H b = none) → (adL a).Nodup → Q (.ref a.d) H'
def spLimits : Sp := fun vs H Q _ => ∃ (t c S : Addr) (cs : List Int) (s : Sch) (a : Ads) (tab : Tab), vs = [.ref t, .ref S, .str tab.n] ∧ TapeAt H t c cs ∧ SchAt H S s t c ∧ s.length ≤ 6 ∧ (∀ p ∈ s, nameOk p.2.n ∧ 1 ≤ p.2.cols.length) ∧ (a, tab) ∈ s ∧ TabBare tab ∧
  ∀ (tab' : Tab) (H' : Hp), tab'.n = tab.n → tab'.cols = tab.cols → TabOk (frOf s) tab' → DescAt H' a tab' → TapeAt H' t c cs → KeepT H H' → SameE [t, a.k, a.u, a.r] H H' → Q .non H'
def spSchema : Sp := fun vs H Q _ => ∃ (t c : Addr) (cs : List Int) (least most : Int), vs = [.ref t, .int least, .int most] ∧ TapeAt H t c cs ∧ 0 ≤ least ∧ least ≤ most ∧ most ≤ 6 ∧
  ∀ (S : Addr) (s : Sch) (H' : Hp), SchAt H' S s t c → (∀ p ∈ s, TabOk (frOf s) p.2) → least ≤ s.length → (s.length : Int) ≤ most → TapeAt H' t c cs → SameX t H H' → Q (.ref S) H'
theorem mem_flat {s : Sch} {p : Ads × Tab} (h : p ∈ s) {b : Addr} (hb : b ∈ adL p.1) : b ∈ schL s := List.mem_flatMap.mpr ⟨p, h, hb⟩
theorem flat_one {s : Sch} (nd : (schL s).Nodup) {p q : Ads × Tab} (hp : p ∈ s) (hq : q ∈ s) {b : Addr} (h1 : b ∈ adL p.1) (h2 : b ∈ adL q.1) : p = q := by
  have nd := List.pairwise_flatMap.mp nd
  obtain ⟨i, hi, ei⟩ := List.getElem_of_mem hp
  obtain ⟨j, hj, ej⟩ := List.getElem_of_mem hq
  rcases Nat.lt_trichotomy i j with h | h | h
  · have := List.pairwise_iff_getElem.mp nd.2 i j hi hj h
    rw [ei, ej] at this
    exact absurd rfl (this b h1 b h2)
  · subst h; rw [← ei, ← ej]
  · have := List.pairwise_iff_getElem.mp nd.2 j i hj hi h
    rw [ei, ej] at this
    exact absurd rfl (this b h2 b h1)
theorem SchAt.tS {H : Hp} {S : Addr} {s : Sch} {t c : Addr} (h : SchAt H S s t c) : t ≠ S ∧ (∀ p ∈ s, p.1.d ≠ t) ∧ (∀ p ∈ s, p.1.d ≠ S) ∧ (∀ p ∈ s, ∀ b ∈ adL p.1, b ≠ c) := by
  have h1 := List.nodup_cons.mp h.dn
  have h2 := List.nodup_cons.mp h1.2
  have h3 := List.nodup_cons.mp h.ln
  refine ⟨fun e => h1.1 (by rw [e]; exact List.mem_cons_self), fun p hp e => h1.1 (List.mem_cons_of_mem _ (List.mem_map.mpr ⟨p, hp, e⟩)), fun p hp e => h2.1 (List.mem_map.mpr ⟨p, hp, e⟩), fun p hp b hb e => h3.1 (e ▸ mem_flat hp hb)⟩
theorem SchAt.monoX {H H' : Hp} {S : Addr} {s : Sch} {t c : Addr} {cs : List Int} (h : SchAt H S s t c) (T : TapeAt H t c cs) (e : SameX t H H') : SchAt H' S s t c := by
  obtain ⟨h1, h2, h3, _⟩ := h.tS
  refine ⟨e _ _ h.sk h1.symm, fun p hp => (h.ds p hp).frame (KeepT.ofX T e) (fun o z => e _ _ z (h2 p hp)) (fun b hb o z => e _ _ z ?_), h.nm, h.dn, h.ln⟩
  obtain ⟨xs, g⟩ := (h.ds p hp).isL b hb
  exact T.notL g
structure Lim (H H' : Hp) (t c : Addr) (cs : List Int) (a : Ads) (OL : Addr) (os : List Str) (conds : List Cond) (un : List Str) (rf : List (Str × Str)) : Prop where
  T : TapeAt H' t c cs
  kt : KeepT H H'
  se : SameE [t, a.k, a.u, a.r] H H'
  ol : H' OL = some (.lst (os.map V.str))
  ch : ∃ xs, H' a.k = some (.lst xs) ∧ TpL H' xs (conds.map condD)
  un : H' a.u = some (.lst (un.map V.str))
  rf : ∃ ys, H' a.r = some (.lst ys) ∧ TpL H' ys (rf.map rfD)
section
variable {H H' H2 : Hp} {t c : Addr} {cs : List Int} {a : Ads} {OL : Addr} {os : List Str} {conds : List Cond} {un : List Str} {rf : List (Str × Str)}
theorem Lim.stepX (L : Lim H H' t c cs a OL os conds un rf) (T2 : TapeAt H2 t c cs) (e : SameX t H' H2) : Lim H H2 t c cs a OL os conds un rf := by
  obtain ⟨T, kt, se, ol, ⟨xs, c1, c2⟩, un, ⟨ys, r1, r2⟩⟩ := L
  have k2 := KeepT.ofX T e
  exact ⟨T2, kt.trans k2, se.trans (SameE.ofX e (by simp)), e _ _ ol (T.notL ol), ⟨xs, e _ _ c1 (T.notL c1), c2.mono k2⟩, e _ _ un (T.notL un), ⟨ys, e _ _ r1 (T.notL r1), r2.mono k2⟩⟩
theorem Lim.step (L : Lim H H' t c cs a OL os conds un rf) (e : Same H' H2) : Lim H H2 t c cs a OL os conds un rf := by
  obtain ⟨T, kt, se, ol, ⟨xs, c1, c2⟩, un, ⟨ys, r1, r2⟩⟩ := L
  exact ⟨T.mono e, kt.trans (KeepT.of e), se.trans (SameE.of e), e _ _ ol, ⟨xs, e _ _ c1, c2.mono (KeepT.of e)⟩, e _ _ un, ⟨ys, e _ _ r1, r2.mono (KeepT.of e)⟩⟩
/-- what the schema shows while one table of it gets its constraints -/
theorem Lim.see {S : Addr} {s : Sch} {tab : Tab} (L : Lim H H' t c cs a OL os conds un rf) (A : SchAt H S s t c) (hm : (a, tab) ∈ s) (htk : ∃ kvs, H t = some (.dK kvs)) : DGet H' S (.str tab.n) (some (.ref a.d)) ∧ DGet H' a.d (.str "columns") (some (.ref a.c)) ∧ DGet H' a.d (.str "checks") (some (.ref a.k)) ∧ DGet H' a.d (.str "uniques") (some (.ref a.u)) ∧ DGet H' a.d (.str "references") (some (.ref a.r)) ∧ ColsAt H' a.c tab.cols ∧
    ∀ q ∈ s, DGet H' S (.str q.2.n) (some (.ref q.1.d)) ∧ DGet H' q.1.d (.str "columns") (some (.ref q.1.c)) ∧ ColsAt H' q.1.c q.2.cols := by
  obtain ⟨h1, h2, h3, h4⟩ := A.tS
  have D := A.ds _ hm
  have dl : ∀ {x : Addr} {kvs : List (Key × V)}, H x = some (.dK kvs) → x ≠ t → x ∉ [t, a.k, a.u, a.r] := by
    intro x kvs hx hxt hc
    have gl := D.isL
    simp only [List.mem_cons, List.not_mem_nil, or_false] at hc
    rcases hc with z | z | z | z
    · exact hxt z
    · obtain ⟨xs, g⟩ := gl a.k (by simp [adL]); rw [z, g] at hx; cases hx
    · obtain ⟨xs, g⟩ := gl a.u (by simp [adL]); rw [z, g] at hx; cases hx
    · obtain ⟨xs, g⟩ := gl a.r (by simp [adL]); rw [z, g] at hx; cases hx
  have hS : H' S = some (.dK (schK s)) := L.se _ _ A.sk (dl A.sk h1.symm)
  have all : ∀ q ∈ s, DGet H' S (.str q.2.n) (some (.ref q.1.d)) ∧ H' q.1.d = some (.dK (descD q.1)) ∧ ColsAt H' q.1.c q.2.cols := by
    intro q hq
    have g := DGet.k (k := (Sum.inr q.2.n : Key)) hS
    rw [sch_get A.nm hq] at g
    have Dq := A.ds q hq
    refine ⟨g, L.se _ _ Dq.dk (dl Dq.dk (h2 q hq)), Dq.co.mono L.kt fun o ho => L.se _ _ ho fun hc => ?_⟩
    have hb : q.1.c ∈ adL q.1 := by simp [adL]
    have nd := (List.nodup_cons.mp A.ln).2
    have one : ∀ b, b ∈ adL a → q.1.c = b → b = a.c := by
      intro b hba e
      have := flat_one nd hq hm hb (by rw [e]; exact hba)
      rw [← e, this]
    have ndA : (adL a).Nodup := (List.pairwise_flatMap.mp nd).1 _ hm
    simp only [adL, List.nodup_cons, List.mem_cons, List.not_mem_nil, or_false, not_or] at ndA
    simp only [List.mem_cons, List.not_mem_nil, or_false] at hc
    rcases hc with z | z | z | z
    · obtain ⟨kvs, e⟩ := htk
      obtain ⟨xs, g⟩ := Dq.isL q.1.c hb
      rw [z, e] at g; cases g
    · exact ndA.1.1 (one a.k (by simp [adL]) z).symm
    · exact ndA.1.2.1 (one a.u (by simp [adL]) z).symm
    · exact ndA.1.2.2 (one a.r (by simp [adL]) z).symm
  obtain ⟨g1, g2, g3⟩ := all _ hm
  have gg : ∀ {q : Ads}, H' q.d = some (.dK (descD q)) → DGet H' q.d (.str "columns") (some (.ref q.c)) := fun {q} e => by
    have g := DGet.k (k := (Sum.inr ("columns" : Str) : Key)) e; rw [dd_c] at g; exact g
  refine ⟨g1, gg g2, ?_, ?_, ?_, g3, fun q hq => ?_⟩
  · have g := DGet.k (k := (Sum.inr ("checks" : Str) : Key)) g2; rw [dd_k] at g; exact g
  · have g := DGet.k (k := (Sum.inr ("uniques" : Str) : Key)) g2; rw [dd_u] at g; exact g
  · have g := DGet.k (k := (Sum.inr ("references" : Str) : Key)) g2; rw [dd_r] at g; exact g
  · obtain ⟨q1, q2, q3⟩ := all q hq
    exact ⟨q1, gg q2, q3⟩
end
/-- a list of texts, compared with the empty one -/
theorem strs_dp {K : PySem.W.Frag} {H : Hp} : ∀ xs : List Str, DpAll K H (xs.map V.str) (xs.map PyData.str)
  | [] => .nil
  | x :: r => .cons (.str x) (strs_dp r)
theorem strs_lay : ∀ xs : List Str, (∀ x ∈ xs, PyData.strOk x = true) → PyData.canLayAll0 (xs.map PyData.str) = true ∧ PyData.depthAll (xs.map PyData.str) ≤ 1
  | [], _ => by simp [PyData.canLayAll0, PyData.depthAll]
  | x :: r, h => by
    obtain ⟨a, b⟩ := strs_lay r fun y hy => h y (List.mem_cons_of_mem _ hy)
    have hx := h x List.mem_cons_self
    constructor
    · simp [PyData.canLayAll0, PyData.canLay0, a, hx]
    · simp only [List.map_cons, PyData.depthAll, PyData.depth]
      omega
theorem strs_shaped {xs : List Str} (h : ∀ x ∈ xs, PyData.strOk x = true) : SeqAt.shaped (.list (xs.map PyData.str)) = true := by
  obtain ⟨a, b⟩ := strs_lay xs h
  simp only [SeqAt.shaped, PyData.canLay0, a, Bool.true_and, PyData.depth]
  exact decide_eq_true (by omega)
theorem strs_eqv (xs : List Str) : PyData.eqv (.list (xs.map PyData.str)) (.list []) = xs.isEmpty := by cases xs <;> rfl
theorem nameOk.str {z : Str} (h : nameOk z) : PyData.strOk z = true := strOk_of fun c hc => (h.2.2 c hc).ok
/-- one table's description has changed, all else stands -/
theorem SchAt.set {H H' : Hp} {S : Addr} {s : Sch} {t c : Addr} {i : Nat} {a : Ads} {tab tab' : Tab} (h : SchAt H S s t c) (ht : ∃ kvs, H t = some (.dK kvs)) (hi : s[i]? = some (a, tab)) (hn : tab'.n = tab.n) (hd : DescAt H' a tab') (kt : KeepT H H') (e : SameE [t, a.k, a.u, a.r] H H') : SchAt H' S (s.set i (a, tab')) t c := by
  obtain ⟨h1, h2, h3, h4⟩ := h.tS
  have hm : (a, tab) ∈ s := List.mem_of_getElem? hi
  have hil : i < s.length := (List.getElem?_eq_some_iff.mp hi).1
  have dl : ∀ {x : Addr} {kvs : List (Key × V)}, H x = some (.dK kvs) → x ≠ t → x ∉ [t, a.k, a.u, a.r] := by
    intro x kvs hx hxt hc
    have gl := (h.ds _ hm).isL
    simp only [List.mem_cons, List.not_mem_nil, or_false] at hc
    rcases hc with z | z | z | z
    · exact hxt z
    · obtain ⟨xs, g⟩ := gl a.k (by simp [adL]); rw [z, g] at hx; cases hx
    · obtain ⟨xs, g⟩ := gl a.u (by simp [adL]); rw [z, g] at hx; cases hx
    · obtain ⟨xs, g⟩ := gl a.r (by simp [adL]); rw [z, g] at hx; cases hx
  have ek : schK (s.set i (a, tab')) = schK s := by
    unfold schK
    rw [List.map_set]
    refine List.ext_getElem? fun j => ?_
    rw [List.getElem?_set]
    split
    · rename_i hj; subst hj
      rw [List.getElem?_map, hi, if_pos (by rw [List.length_map]; exact hil)]
      show some ((Sum.inr tab'.n : Key), V.ref a.d) = _
      rw [hn]; rfl
    · rfl
  have en : schN (s.set i (a, tab')) = schN s := by
    unfold schN
    rw [List.map_set]
    refine List.ext_getElem? fun j => ?_
    rw [List.getElem?_set]
    split
    · rename_i hj; subst hj
      rw [List.getElem?_map, hi, if_pos (by rw [List.length_map]; exact hil)]
      exact congrArg some hn
    · rfl
  have ea : (s.set i (a, tab')).map (fun p => p.1) = s.map (fun p => p.1) := by
    rw [List.map_set]
    refine List.ext_getElem? fun j => ?_
    rw [List.getElem?_set]
    split
    · rename_i hj; subst hj
      rw [List.getElem?_map, hi, if_pos (by rw [List.length_map]; exact hil)]
      rfl
    · rfl
  have ed : (s.set i (a, tab')).map (fun p => p.1.d) = s.map (fun p => p.1.d) := by
    have := congrArg (List.map fun x : Ads => x.d) ea
    rw [List.map_map, List.map_map] at this
    exact this
  have el : schL (s.set i (a, tab')) = schL s := by
    have := congrArg (List.flatMap fun x : Ads => adL x) ea
    rw [List.flatMap_map, List.flatMap_map] at this
    exact this
  refine ⟨?_, fun p hp => ?_, by rw [en]; exact h.nm, by rw [ed]; exact h.dn, by rw [el]; exact h.ln⟩
  · rw [ek]; exact e _ _ h.sk (dl h.sk h1.symm)
  · obtain ⟨j, hj, ej⟩ := List.getElem_of_mem hp
    rw [List.getElem_set] at ej
    split at ej
    · rw [← ej]; exact hd
    · rename_i hne
      rw [List.length_set] at hj
      have hps : p ∈ s := by rw [← ej]; exact List.getElem_mem hj
      have D := h.ds p hps
      refine D.frame kt (fun o z => e _ _ z (by rw [D.dk] at z; cases z; exact dl D.dk (h2 p hps))) (fun b hb o z => e _ _ z fun hc => ?_)
      have hb2 : b ∈ adL a ∨ b = t := by
        simp only [List.mem_cons, List.not_mem_nil, or_false] at hc
        rcases hc with z | z | z | z
        · exact .inr z
        · exact .inl (by rw [z]; simp [adL])
        · exact .inl (by rw [z]; simp [adL])
        · exact .inl (by rw [z]; simp [adL])
      rcases hb2 with hb2 | hb2
      · have eq := flat_one (List.nodup_cons.mp h.ln).2 hps hm hb hb2
        have hi' : s[i] = (a, tab) := by rw [List.getElem?_eq_getElem hil] at hi; exact Option.some.inj hi
        have b1 : (schN s)[j]? = some tab.n := by unfold schN; rw [List.getElem?_map, List.getElem?_eq_getElem hj, ej, eq]; rfl
        have b2 : (schN s)[i]? = some tab.n := by unfold schN; rw [List.getElem?_map, hi]; rfl
        exact hne (nd_ix h.nm b2 b1)
      · obtain ⟨xs, g⟩ := D.isL b hb
        obtain ⟨kvs, h5⟩ := ht
        rw [hb2, h5] at g
        cases g
end Lt

set_option autoImplicit false
namespace Lt
open PySem L2 TL
open C8 (pss_cut)
/-! ## a schema in the making -/
theorem putK_fresh {kvs : List (Key × V)} {k : Key} {v : V} (h : k ∉ kvs.map (·.1)) : putK kvs k v = kvs ++ [(k, v)] := by
  unfold putK
  rw [if_neg]
  intro z
  obtain ⟨x, h1, h2⟩ := List.any_eq_true.mp z
  exact h (List.mem_map.mpr ⟨x, h1, of_decide_eq_true h2⟩)
theorem schK_new {s : Sch} {a : Ads} {tab : Tab} (h : tab.n ∉ schN s) : putK (schK s) (Sum.inr tab.n : Key) (.ref a.d) = schK (s ++ [(a, tab)]) := by
  rw [putK_fresh]
  · unfold schK; rw [List.map_append]; rfl
  · rw [sch_keys]
    intro z
    obtain ⟨x, h1, h2⟩ := List.mem_map.mp z
    cases h2
    exact h h1
theorem SchAt.notS {H : Hp} {S : Addr} {s : Sch} {t c : Addr} (A : SchAt H S s t c) : ∀ p ∈ s, ∀ b ∈ adL p.1, b ≠ S := fun p hp b hb e => by
  obtain ⟨xs, g⟩ := (A.ds p hp).isL b hb
  rw [e, A.sk] at g
  cases g
theorem SchAt.add {H : Hp} {S t c : Addr} {s : Sch} {a : Ads} {tab : Tab} (A : SchAt H S s t c) (D : DescAt H a tab) (hz : tab.n ∉ schN s) (hd : a.d ≠ t ∧ a.d ≠ S ∧ ∀ p ∈ s, a.d ≠ p.1.d)
    (hl : ∀ b ∈ adL a, b ≠ c ∧ b ∉ schL s) (nd : (adL a).Nodup) : SchAt (upd H S (.dK (schK (s ++ [(a, tab)])))) S (s ++ [(a, tab)]) t c := by
  obtain ⟨h1, h2, h3, h4⟩ := A.tS
  have kt : KeepT H (upd H S (.dK (schK (s ++ [(a, tab)])))) := KeepT.lock A.sk
  have fr : ∀ {a' : Ads} {tab' : Tab}, DescAt H a' tab' → a'.d ≠ S → DescAt (upd H S (.dK (schK (s ++ [(a, tab)])))) a' tab' := fun {a' tab'} D' ne =>
    D'.frame kt (fun o z => by rw [upd_ne ne]; exact z) (fun b hb o z => by
      have : b ≠ S := fun e => by
        obtain ⟨xs, g⟩ := D'.isL b hb
        rw [e, A.sk] at g; cases g
      rw [upd_ne this]; exact z)
  refine ⟨upd_same, fun p hp => ?_, ?_, ?_, ?_⟩
  · rcases List.mem_append.mp hp with hp | hp
    · exact fr (A.ds p hp) (h3 p hp)
    · rw [List.mem_singleton.mp hp]; exact fr D hd.2.1
  · unfold schN
    rw [List.map_append]
    refine List.nodup_append.mpr ⟨A.nm, by simp, fun x hx y hy => ?_⟩
    have : y = tab.n := by simpa using hy
    subst this
    rintro rfl
    exact hz hx
  · rw [List.map_append]
    show ((t :: S :: s.map fun p => p.1.d) ++ [a.d]).Nodup
    refine List.nodup_append.mpr ⟨A.dn, by simp, fun x hx y hy => ?_⟩
    have : y = a.d := by simpa using hy
    subst this
    rcases List.mem_cons.mp hx with rfl | hx
    · exact hd.1.symm
    · rcases List.mem_cons.mp hx with rfl | hx
      · exact hd.2.1.symm
      · obtain ⟨p, hp, e⟩ := List.mem_map.mp hx
        rw [← e]; exact (hd.2.2 p hp).symm
  · have e : schL (s ++ [(a, tab)]) = schL s ++ adL a := by unfold schL; rw [List.flatMap_append]; simp
    rw [e]
    show ((c :: schL s) ++ adL a).Nodup
    refine List.nodup_append.mpr ⟨A.ln, nd, fun x hx y hy => ?_⟩
    rintro rfl
    rcases List.mem_cons.mp hx with e | hx
    · exact (hl x hy).1 e
    · exact (hl x hy).2 hx
/-- all stands but the tape and a list that is no part of it -/
theorem SchAt.monoXY {H H' : Hp} {S U : Addr} {s : Sch} {t c : Addr} {cs : List Int} {us : List V} (h : SchAt H S s t c) (T : TapeAt H t c cs) (hU : H U = some (.lst us)) (nU : U ∉ schL s) (e : SameXY t U H H') : SchAt H' S s t c := by
  obtain ⟨h1, h2, h3, _⟩ := h.tS
  have nl : ∀ {b : Addr} {kvs : List (Key × V)}, H b = some (.dK kvs) → b ≠ U := fun hb z => by rw [z, hU] at hb; cases hb
  refine ⟨e _ _ h.sk h1.symm (nl h.sk), fun p hp => (h.ds p hp).frame (KeepT.ofXY T hU e) (fun o z => e _ _ z (h2 p hp) (nl (h.ds p hp).dk)) (fun b hb o z => e _ _ z ?_ ?_), h.nm, h.dn, h.ln⟩
  · obtain ⟨xs, g⟩ := (h.ds p hp).isL b hb
    exact T.notL g
  · rintro rfl; exact nU (mem_flat hp hb)
theorem SameXY.free {t u : Addr} {H H' : Hp} (e : SameXY t u H H') {b : Addr} (h1 : b ≠ t) (h2 : b ≠ u) (h : H' b = none) : H b = none := by
  cases z : H b with
  | none => rfl
  | some o => have := e _ _ z h1 h2; rw [h] at this; cases this
theorem set_map {α β : Type} {s : List α} {i : Nat} {x y : α} (f : α → β) (h : s[i]? = some x) (e : f y = f x) : (s.set i y).map f = s.map f := by
  have hil : i < s.length := (List.getElem?_eq_some_iff.mp h).1
  rw [List.map_set]
  refine List.ext_getElem? fun j => ?_
  rw [List.getElem?_set]
  split
  · rename_i hj; subst hj
    rw [List.getElem?_map, h, if_pos (by rw [List.length_map]; exact hil), e]
    rfl
  · rfl
/-- a schema whose tables get their constraints one after another: those in done have them -/
structure Half (H0 H' : Hp) (t c : Addr) (cs : List Int) (S : Addr) (s s' : Sch) (done : List Str) : Prop where
  A : SchAt H' S s' t c
  T : TapeAt H' t c cs
  ads : s'.map (·.1) = s.map (·.1)
  fr : frOf s' = frOf s
  ok : ∀ p ∈ s', p.2.n ∈ done → TabOk (frOf s) p.2
  ba : ∀ p ∈ s', p.2.n ∉ done → TabBare p.2
  se : SameX t H0 H'
  new : ∀ b ∈ schL s', H0 b = none
theorem schN_of {s s' : Sch} (h : frOf s' = frOf s) : schN s' = schN s := by
  have := congrArg (List.map (·.1)) h
  unfold frOf at this
  rw [List.map_map, List.map_map] at this
  exact this
theorem schL_of {s s' : Sch} (h : s'.map (·.1) = s.map (·.1)) : schL s' = schL s := by
  have := congrArg (List.flatMap fun x : Ads => adL x) h
  rw [List.flatMap_map, List.flatMap_map] at this
  exact this
theorem Half.put {H0 H1 H2 : Hp} {t c : Addr} {cs : List Int} {S : Addr} {s s' : Sch} {done : List Str} {a : Ads} {tab tab' : Tab} (L : Half H0 H1 t c cs S s s' done) (hm : (a, tab) ∈ s')
    (hn : tab'.n = tab.n) (hc : tab'.cols = tab.cols) (ok : TabOk (frOf s') tab') (D : DescAt H2 a tab') (T : TapeAt H2 t c cs) (kt : KeepT H1 H2) (e : SameE [t, a.k, a.u, a.r] H1 H2) :
    ∃ s2, Half H0 H2 t c cs S s s2 (done ++ [tab.n]) := by
  obtain ⟨i, hi, ei⟩ := List.getElem_of_mem hm
  have hi' : s'[i]? = some (a, tab) := by rw [List.getElem?_eq_getElem hi, ei]
  have ht : ∃ kvs, H1 t = some (.dK kvs) := by obtain ⟨_, _, _, _, e, _⟩ := L.T.dk; exact ⟨_, e⟩
  have f1 : frOf (s'.set i (a, tab')) = frOf s := by
    rw [← L.fr]
    exact set_map (fun p : Ads × Tab => (p.2.n, p.2.cols)) hi' (by show (tab'.n, tab'.cols) = (tab.n, tab.cols); rw [hn, hc])
  have f2 : (s'.set i (a, tab')).map (·.1) = s.map (·.1) := by rw [← L.ads]; exact set_map (fun p : Ads × Tab => p.1) hi' rfl
  have back : ∀ p ∈ s'.set i (a, tab'), p = (a, tab') ∨ (p ∈ s' ∧ p.2.n ≠ tab.n) := by
    intro p hp
    obtain ⟨j, hj, ej⟩ := List.getElem_of_mem hp
    rw [List.getElem_set] at ej
    split at ej
    · exact .inl ej.symm
    · rename_i hne
      rw [List.length_set] at hj
      have hps : p ∈ s' := by rw [← ej]; exact List.getElem_mem hj
      refine .inr ⟨hps, fun z => ?_⟩
      have b1 : (schN s')[j]? = some tab.n := by unfold schN; rw [List.getElem?_map, List.getElem?_eq_getElem hj, ej, ← z]; rfl
      have b2 : (schN s')[i]? = some tab.n := by unfold schN; rw [List.getElem?_map, hi']; rfl
      exact hne (nd_ix L.A.nm b2 b1)
  refine ⟨s'.set i (a, tab'), L.A.set ht hi' hn D kt e, T, f2, f1, ?_, ?_, ?_, ?_⟩
  · intro p hp hd
    rcases back p hp with rfl | ⟨h1, h2⟩
    · rw [← L.fr]; exact ok
    · rcases List.mem_append.mp hd with hd | hd
      · exact L.ok p h1 hd
      · exact absurd (List.mem_singleton.mp hd) h2
  · intro p hp hd
    rcases back p hp with rfl | ⟨h1, h2⟩
    · exact absurd (List.mem_append.mpr (.inr (by rw [List.mem_singleton]; exact hn))) hd
    · exact L.ba p h1 fun z => hd (List.mem_append.mpr (.inl z))
  · intro b o hb hbt
    have g := L.se b o hb hbt
    refine e b o g fun hc => ?_
    simp only [List.mem_cons, List.not_mem_nil, or_false] at hc
    have nw : ∀ x ∈ adL a, b ≠ x := fun x hx z => by
      have := L.new x (mem_flat hm hx)
      rw [← z, hb] at this; cases this
    rcases hc with z | z | z | z
    · exact hbt z
    · exact nw a.k (by simp [adL]) z
    · exact nw a.u (by simp [adL]) z
    · exact nw a.r (by simp [adL]) z
  · rw [schL_of (f2.trans L.ads.symm)]; exact L.new
end Lt

set_option autoImplicit false
namespace Lt
open PySem L2 TL
open C8 (pss_cut)
/-! ## schemas as data; what they say of columns and tables -/
mutual
def gOf : D → G
  | .s v => .s v
  | .t ds => .t (gOfL ds)
def gOfL : List D → List G
  | [] => []
  | d :: ds => gOf d :: gOfL ds
end
mutual
def D.sm : D → Bool
  | .s _ => true
  | .t ds => decide (ds.length ≤ 1000) && smL ds
def smL : List D → Bool
  | [] => true
  | d :: ds => d.sm && smL ds
end
theorem gOfL_map : ∀ ds : List D, gOfL ds = ds.map gOf
  | [] => rfl
  | d :: ds => by simp only [gOfL, List.map_cons]; rw [gOfL_map ds]
theorem smL_all : ∀ {ds : List D}, smL ds = true ↔ ∀ d ∈ ds, d.sm = true
  | [] => by simp [smL]
  | d :: ds => by simp only [smL, Bool.and_eq_true, List.forall_mem_cons]; rw [smL_all]
theorem sm_t {ds : List D} (h : ds.length ≤ 1000) (k : ∀ d ∈ ds, d.sm = true) : (D.t ds).sm = true := by
  simp only [D.sm, Bool.and_eq_true, decide_eq_true_eq]
  exact ⟨h, smL_all.mpr k⟩
mutual
theorem Tp.g {H : Hp} : ∀ {d : D} {v : V}, Tp H v d → d.sm = true → Gp H v (gOf d) []
  | .s _, _, h, _ => by cases h with | s h => exact .s h
  | .t ds, _, h, k => by
    cases h with
    | t h r =>
      simp only [D.sm, Bool.and_eq_true, decide_eq_true_eq] at k
      exact .t h (by rw [r.length]; exact k.1) (TpL.g r k.2)
theorem TpL.g {H : Hp} : ∀ {ds : List D} {vs : List V}, TpL H vs ds → smL ds = true → GpL H vs (gOfL ds) []
  | [], _, h, _ => by cases h; exact .nil
  | d :: ds, _, h, k => by
    cases h with
    | cons h r =>
      simp only [smL, Bool.and_eq_true] at k
      exact GpL.cons (D := []) (E := []) (Tp.g h k.1) (TpL.g r k.2)
end
mutual
def D.dp : D → Nat
  | .s _ => 0
  | .t ds => dpL ds + 1
def dpL : List D → Nat
  | [] => 0
  | d :: ds => max d.dp (dpL ds)
end
mutual
theorem dep_gOf : ∀ d : D, (gOf d).dep = d.dp
  | .s _ => rfl
  | .t ds => by simp only [gOf, G.dep, D.dp]; rw [dep_gOfL ds]
theorem dep_gOfL : ∀ ds : List D, depL (gOfL ds) = dpL ds
  | [] => rfl
  | d :: ds => by simp only [gOfL, depL, dpL]; rw [dep_gOf d, dep_gOfL ds]
end
theorem depL_le {n : Nat} : ∀ {gs : List G}, (∀ g ∈ gs, g.dep ≤ n) → depL gs ≤ n
  | [], _ => Nat.zero_le _
  | g :: gs, h => by
    simp only [depL]
    have a := h g List.mem_cons_self
    have b := depL_le fun x hx => h x (List.mem_cons_of_mem _ hx)
    omega
theorem depK_le {n : Nat} : ∀ {gs : List (Key × G)}, (∀ p ∈ gs, p.2.dep ≤ n) → depK gs ≤ n
  | [], _ => Nat.zero_le _
  | (k, g) :: gs, h => by
    simp only [depK]
    have a := h _ List.mem_cons_self
    have b := depK_le fun x hx => h x (List.mem_cons_of_mem _ hx)
    simp only at a
    omega
theorem dpL_le {n : Nat} : ∀ {gs : List D}, (∀ g ∈ gs, g.dp ≤ n) → dpL gs ≤ n
  | [], _ => Nat.zero_le _
  | g :: gs, h => by
    simp only [dpL]
    have a := h g List.mem_cons_self
    have b := dpL_le fun x hx => h x (List.mem_cons_of_mem _ hx)
    omega
theorem col_sm (c : Col) : (colD c).sm = true := rfl
theorem col_dp (c : Col) : (colD c).dp = 1 := rfl
theorem rf_sm (c : Str × Str) : (rfD c).sm = true := rfl
theorem rf_dp (c : Str × Str) : (rfD c).dp = 1 := rfl
theorem cl_sm (c : Cl) : (clD c).sm = true := rfl
theorem cl_dp (c : Cl) : (clD c).dp = 1 := rfl
theorem cond_sm {c : Cond} (h : c.length ≤ 1000) (k : ∀ a ∈ c, a.length ≤ 1000) : (condD c).sm = true := by
  refine sm_t (by rw [List.length_map]; exact h) fun d hd => ?_
  obtain ⟨a, ha, rfl⟩ := List.mem_map.mp hd
  refine sm_t (by rw [List.length_map]; exact k a ha) fun d hd => ?_
  obtain ⟨cl, _, rfl⟩ := List.mem_map.mp hd
  exact cl_sm cl
theorem cond_dp (c : Cond) : (condD c).dp ≤ 3 := by
  have : dpL (c.map altD) ≤ 2 := by
    refine dpL_le fun d hd => ?_
    obtain ⟨a, _, rfl⟩ := List.mem_map.mp hd
    have : dpL (a.map clD) ≤ 1 := dpL_le fun d hd => by
      obtain ⟨cl, _, rfl⟩ := List.mem_map.mp hd
      exact Nat.le_of_eq (cl_dp cl)
    simp only [altD, D.dp]; omega
  simp only [condD, D.dp]; omega
/-- a list of tuples as data -/
def lG (ds : List D) : G := .l (gOfL ds)
def strsG (xs : List Str) : G := .l (xs.map fun x => .s (.str x))
theorem strsG_L {H : Hp} : ∀ xs : List Str, GpL H (xs.map V.str) (xs.map fun x => G.s (.str x)) []
  | [] => .nil
  | x :: r => GpL.cons (D := []) (E := []) (.s rfl) (strsG_L r)
theorem strsG_at {H : Hp} {N : Addr} {xs : List Str} (h : H N = some (.lst (xs.map V.str))) (hl : xs.length ≤ 1000) : Gp H (.ref N) (strsG xs) [N] := .l h (by rw [List.length_map]; exact hl) (strsG_L xs)
theorem strsG_dep (xs : List Str) : (strsG xs).dep ≤ 1 := by
  have : depL (xs.map fun x => G.s (.str x)) ≤ 0 := depL_le fun g hg => by
    obtain ⟨x, _, rfl⟩ := List.mem_map.mp hg
    exact Nat.le_refl 0
  simp only [strsG, G.dep]; omega
def descG (t : Tab) : G := .d [(Sum.inr ("columns" : Str), lG (t.cols.map colD)), (Sum.inr ("checks" : Str), lG (t.ch.map condD)), (Sum.inr ("uniques" : Str), strsG t.un), (Sum.inr ("references" : Str), lG (t.rf.map rfD))]
def tabsG (ts : List Tab) : List (Key × G) := ts.map fun t => ((Sum.inr t.n : Key), descG t)
def schG (s : Sch) : G := .d (tabsG (s.map (·.2)))
/-- sizes that any schema here keeps to -/
structure TabSm (t : Tab) : Prop where
  co : t.cols.length ≤ 40
  ch : t.ch.length ≤ 40
  cc : ∀ c ∈ t.ch, c.length ≤ 20 ∧ ∀ a ∈ c, a.length ≤ 20
  un : t.un.length ≤ 40
  rf : t.rf.length ≤ 40
theorem TabOk.sm {fr : List (Str × List Col)} {t : Tab} (h : TabOk fr t) : TabSm t := by
  have h1 := h.l5
  have h2 := h.c4
  have h3 := h.u4
  have h4 := h.r4
  exact ⟨by omega, by omega, fun c hc => by
    obtain ⟨a, b⟩ := h.cc c hc
    exact ⟨by omega, fun x hx => by have := (b x hx).1; omega⟩, by omega, by omega⟩
theorem lG_dep {ds : List D} {n : Nat} (h : ∀ d ∈ ds, d.dp ≤ n) : (lG ds).dep ≤ n + 1 := by
  simp only [lG, G.dep]
  rw [dep_gOfL]
  have := dpL_le h
  omega
theorem desc_dep (t : Tab) : (descG t).dep ≤ 5 := by
  have : depK [((Sum.inr ("columns" : Str) : Key), lG (t.cols.map colD)), (Sum.inr ("checks" : Str), lG (t.ch.map condD)), (Sum.inr ("uniques" : Str), strsG t.un), (Sum.inr ("references" : Str), lG (t.rf.map rfD))] ≤ 4 := by
    refine depK_le fun p hp => ?_
    simp only [List.mem_cons, List.not_mem_nil, or_false] at hp
    rcases hp with rfl | rfl | rfl | rfl
    · exact Nat.le_trans (lG_dep (n := 1) fun d hd => by obtain ⟨x, _, rfl⟩ := List.mem_map.mp hd; exact Nat.le_of_eq (col_dp x)) (by decide)
    · exact lG_dep (n := 3) fun d hd => by obtain ⟨x, _, rfl⟩ := List.mem_map.mp hd; exact cond_dp x
    · exact Nat.le_trans (strsG_dep _) (by decide)
    · exact Nat.le_trans (lG_dep (n := 1) fun d hd => by obtain ⟨x, _, rfl⟩ := List.mem_map.mp hd; exact Nat.le_of_eq (rf_dp x)) (by decide)
  simp only [descG, G.dep]; omega
theorem sch_dep (s : Sch) : (schG s).dep ≤ 6 := by
  have : depK (tabsG (s.map (·.2))) ≤ 5 := depK_le fun p hp => by
    obtain ⟨t, _, rfl⟩ := List.mem_map.mp hp
    exact desc_dep t
  simp only [schG, G.dep]; omega
theorem desc_nd (a : Ads) : ((descD a).map (·.1)).Nodup := by
  simp only [descD, List.map_cons, List.map_nil, List.nodup_cons, List.mem_cons, List.not_mem_nil, or_false, not_or, not_false_eq_true, List.nodup_nil, and_true]
  refine ⟨⟨fun z => e_co_ch (Sum.inr.inj z), fun z => e_co_un (Sum.inr.inj z), fun z => e_co_rf (Sum.inr.inj z)⟩, ⟨fun z => e_ch_un (Sum.inr.inj z), fun z => e_ch_rf (Sum.inr.inj z)⟩, fun z => e_un_rf (Sum.inr.inj z)⟩
theorem DescAt.g {H : Hp} {a : Ads} {t : Tab} (h : DescAt H a t) (k : TabSm t) : Gp H (.ref a.d) (descG t) (a.d :: adL a) := by
  obtain ⟨xs, h2, r2⟩ := h.co
  obtain ⟨ys, h3, r3⟩ := h.ch
  obtain ⟨zs, h5, r5⟩ := h.rf
  have g2 : Gp H (.ref a.c) (lG (t.cols.map colD)) [a.c] := .l h2 (by have := k.co; rw [r2.length, List.length_map]; omega) (r2.g (smL_all.mpr fun d hd => by obtain ⟨x, _, rfl⟩ := List.mem_map.mp hd; rfl))
  have g3 : Gp H (.ref a.k) (lG (t.ch.map condD)) [a.k] := .l h3 (by have := k.ch; rw [r3.length, List.length_map]; omega) (r3.g (smL_all.mpr fun d hd => by
    obtain ⟨x, hx, rfl⟩ := List.mem_map.mp hd
    have := k.cc x hx
    exact cond_sm (by omega) fun a ha => by have := this.2 a ha; omega))
  have g4 : Gp H (.ref a.u) (strsG t.un) [a.u] := strsG_at h.un (by have := k.un; omega)
  have g5 : Gp H (.ref a.r) (lG (t.rf.map rfD)) [a.r] := .l h5 (by have := k.rf; rw [r5.length, List.length_map]; omega) (r5.g (smL_all.mpr fun d hd => by obtain ⟨x, _, rfl⟩ := List.mem_map.mp hd; rfl))
  refine .d h.dk (by show 4 ≤ 1000; decide) (desc_nd a) (D := adL a) (GpK.cons (D := [a.c]) (E := [a.k, a.u, a.r]) g2 (GpK.cons (D := [a.k]) (E := [a.u, a.r]) g3 (GpK.cons (D := [a.u]) (E := [a.r]) g4 (GpK.cons (D := [a.r]) (E := []) g5 .nil)))) fun hm => ?_
  obtain ⟨ys, e⟩ := h.isL _ hm
  rw [h.dk] at e
  cases e
def schD (s : Sch) : List Addr := s.flatMap fun p => p.1.d :: adL p.1
theorem tabs_gp {H : Hp} : ∀ {s : Sch}, (∀ p ∈ s, DescAt H p.1 p.2) → (∀ p ∈ s, TabSm p.2) → GpK H (schK s) (tabsG (s.map (·.2))) (schD s)
  | [], _, _ => .nil
  | p :: r, h, k => by
    have := tabs_gp (fun q hq => h q (List.mem_cons_of_mem _ hq)) (fun q hq => k q (List.mem_cons_of_mem _ hq))
    exact GpK.cons ((h p List.mem_cons_self).g (k p List.mem_cons_self)) this
theorem sch_gp {H : Hp} {S : Addr} {s : Sch} (hs : H S = some (.dK (schK s))) (hd : ∀ p ∈ s, DescAt H p.1 p.2) (nm : (schN s).Nodup) (k : ∀ p ∈ s, TabSm p.2) (l : s.length ≤ 100) (ne : ∀ p ∈ s, p.1.d ≠ S) : Gp H (.ref S) (schG s) (S :: schD s) := by
  refine .d hs (by unfold schK; rw [List.length_map]; omega) (sch_nd nm) (tabs_gp hd k) fun hm => ?_
  obtain ⟨p, hp, hb⟩ := List.mem_flatMap.mp hm
  rcases List.mem_cons.mp hb with e | hb
  · exact ne p hp e.symm
  · obtain ⟨xs, e⟩ := (hd p hp).isL _ hb
    rw [hs] at e
    cases e
theorem SchAt.g {H : Hp} {S t c : Addr} {s : Sch} (A : SchAt H S s t c) (k : ∀ p ∈ s, TabSm p.2) (l : s.length ≤ 100) : Gp H (.ref S) (schG s) (S :: schD s) := sch_gp A.sk A.ds A.nm k l A.tS.2.2.1
/-! ### is a column used, is a table referenced -/
def usedM (t : Tab) (n : Str) : Bool := t.ch.any (mentM n) || (decide (n ∈ t.un) || decide (n ∈ t.rf.map (·.1)))
def refdM (ts : List Tab) (n : Str) : Bool := ts.any fun t => t.rf.any fun r => decide (r.2 = n)
def spColumnNames : Sp := fun vs H Q _ => ∃ (d L : Addr) (cols : List Col), vs = [.ref d] ∧ DGet H d (.str "columns") (some (.ref L)) ∧ ColsAt H L cols ∧ cols.length ≤ 100 ∧ ∀ N H', H N = none → Same H H' → H' N = some (.lst ((colNs cols).map V.str)) → Q (.ref N) H'
def spCopyDesc : Sp := fun vs H Q _ => ∃ (a : Ads) (tab : Tab), vs = [.ref a.d] ∧ DescAt H a tab ∧ ∀ a' H', DescAt H' a' tab → Same H H' → H a'.d = none → (∀ b ∈ adL a', H b = none) → (adL a').Nodup → Q (.ref a'.d) H'
/-- a schema, made anew -/
structure NewSch (H H' : Hp) (S : Addr) (s : Sch) (ts : List Tab) : Prop where
  sk : H' S = some (.dK (schK s))
  ds : ∀ p ∈ s, DescAt H' p.1 p.2
  ts : s.map (·.2) = ts
  fS : H S = none
  fd : ∀ p ∈ s, H p.1.d = none ∧ p.1.d ≠ S ∧ ∀ b ∈ adL p.1, H b = none
  dn : (s.map fun p => p.1.d).Nodup
  ln : (schL s).Nodup
  se : Same H H'
def spCopySchema : Sp := fun vs H Q _ => ∃ (S : Addr) (s : Sch), vs = [.ref S] ∧ H S = some (.dK (schK s)) ∧ (∀ p ∈ s, DescAt H p.1 p.2) ∧ (schN s).Nodup ∧ s.length ≤ 100 ∧ ∀ S' s' H', NewSch H H' S' s' (s.map (·.2)) → Q (.ref S') H'
def spIsUsed : Sp := fun vs H Q _ => ∃ (a : Ads) (tab : Tab) (n : Str), vs = [.ref a.d, .str n] ∧ DescAt H a tab ∧ TabSm tab ∧ ∀ H', Same H H' → Q (.bl (usedM tab n)) H'
def spIsReferenced : Sp := fun vs H Q _ => ∃ (S : Addr) (s : Sch) (n : Str), vs = [.ref S, .str n] ∧ H S = some (.dK (schK s)) ∧ (∀ p ∈ s, DescAt H p.1 p.2) ∧ (schN s).Nodup ∧ (∀ p ∈ s, TabSm p.2) ∧ s.length ≤ 20 ∧ ∀ H', Same H H' → Q (.bl (refdM (s.map (·.2)) n)) H'
theorem sch_at {s : Sch} {i : Nat} {k : Key} {v : V} (h : (schK s)[i]? = some (k, v)) : ∃ p, s[i]? = some p ∧ k = Sum.inr p.2.n ∧ v = .ref p.1.d := by
  unfold schK at h
  rw [List.getElem?_map] at h
  cases e : s[i]? with
  | none => rw [e] at h; cases h
  | some p => rw [e] at h; cases h; exact ⟨p, rfl, rfl, rfl⟩
theorem sch_getF {H : Hp} {S : Addr} {s : Sch} {od : Obj} (h : H S = some (.frz od (.dK (schK s)))) (nm : (schN s).Nodup) {p : Ads × Tab} (hp : p ∈ s) : DGet H S (.str p.2.n) (some (.ref p.1.d)) :=
  .inl ⟨schK s, Sum.inr p.2.n, .inr ⟨od, h⟩, rfl, (sch_get nm hp).symm⟩
theorem DescAt.lock {H : Hp} {S : Addr} {a : Ads} {t : Tab} {kvs : List (Key × V)} {o : HO} (h : DescAt H a t) (hS : H S = some (.dK kvs)) (ne : a.d ≠ S) : DescAt (upd H S o) a t :=
  h.frame (KeepT.lock hS) (fun o z => by rw [upd_ne ne]; exact z) fun b hb o z => by
    have : b ≠ S := fun e => by
      obtain ⟨xs, g⟩ := h.isL _ hb
      rw [e, hS] at g; cases g
    rw [upd_ne this]; exact z
/-- a description does not stand where the schema stands -/
theorem desc_ne {H : Hp} {S : Addr} {s : Sch} (hs : H S = some (.dK (schK s))) (hd : ∀ p ∈ s, DescAt H p.1 p.2) : ∀ p ∈ s, p.1.d ≠ S := fun p hp e => by
  have D := hd p hp
  have h1 := D.dk
  rw [e, hs] at h1
  have h2 : schK s = descD p.1 := HO.dK.inj (Option.some.inj h1)
  have h3 : ((Sum.inr ("columns" : Str) : Key), V.ref p.1.c) ∈ schK s := by rw [h2]; simp [descD]
  obtain ⟨q, hq, eq⟩ := List.mem_map.mp h3
  have h4 : q.1.d = p.1.c := V.ref.inj (Prod.mk.inj eq).2
  obtain ⟨xs, g⟩ := D.isL p.1.c (by simp [adL])
  rw [← h4, (hd q hq).dk] at g
  cases g
theorem cond_flat {c : Cond} (h1 : c.length ≤ 20) (h2 : ∀ a ∈ c, a.length ≤ 20) : c.flatten.length ≤ 1000 := by
  have : ∀ (c : Cond), (∀ a ∈ c, a.length ≤ 20) → c.flatten.length ≤ 20 * c.length := by
    intro c
    induction c with
    | nil => intro _; simp
    | cons a r ih =>
      intro h
      have a1 := h a List.mem_cons_self
      have a2 := ih fun x hx => h x (List.mem_cons_of_mem _ hx)
      rw [List.flatten_cons, List.length_append, List.length_cons]
      omega
  have := this c h2
  omega
theorem take_map {α β : Type} (f : α → β) {l : List α} {i : Nat} {x : α} (h : l[i]? = some x) : (l.take (i + 1)).map f = (l.take i).map f ++ [f x] := by
  rw [List.take_add_one, h, List.map_append]; rfl
theorem take_map2 {α β γ : Type} (f : α → β) (g : β → γ) {l : List α} {i : Nat} {x : α} (h : l[i]? = some x) : ((l.take (i + 1)).map f).map g = ((l.take i).map f).map g ++ [g (f x)] := by
  rw [take_map f h, List.map_append]; rfl
theorem D_str_eq (a b : Str) : decide (V.str a = V.str b) = decide (a = b) := by
  by_cases h : a = b
  · rw [decide_eq_true h, decide_eq_true (congrArg V.str h)]
  · rw [decide_eq_false h, decide_eq_false (fun z => h (V.str.inj z))]
theorem DescAt.mono {H H' : Hp} {a : Ads} {t : Tab} (h : DescAt H a t) (e : Same H H') : DescAt H' a t := h.frame (KeepT.of e) (fun o => e _ _) (fun b _ o => e _ _)
theorem NewSch.newD {H H' : Hp} {S : Addr} {s : Sch} {ts : List Tab} (N : NewSch H H' S s ts) : ∀ a ∈ S :: schD s, H a = none := by
  intro a ha
  rcases List.mem_cons.mp ha with rfl | ha
  · exact N.fS
  · obtain ⟨p, hp, hb⟩ := List.mem_flatMap.mp ha
    obtain ⟨h1, _, h2⟩ := N.fd p hp
    rcases List.mem_cons.mp hb with rfl | hb
    · exact h1
    · exact h2 a hb
theorem NewSch.nm {H H' : Hp} {S : Addr} {s s0 : Sch} (N : NewSch H H' S s (s0.map (·.2))) (h : (schN s0).Nodup) : (schN s).Nodup := by
  have : schN s = schN s0 := by
    have e := congrArg (List.map fun t : Tab => t.n) N.ts
    rw [List.map_map, List.map_map] at e
    exact e
  rw [this]; exact h
theorem NewSch.mem {H H' : Hp} {S : Addr} {s s0 : Sch} (N : NewSch H H' S s (s0.map (·.2))) {p : Ads × Tab} (hp : p ∈ s) : ∃ q ∈ s0, q.2 = p.2 := by
  have : p.2 ∈ s0.map (·.2) := by rw [← N.ts]; exact List.mem_map.mpr ⟨p, hp, rfl⟩
  obtain ⟨q, h1, h2⟩ := List.mem_map.mp this
  exact ⟨q, h1, h2⟩
theorem NewSch.g {H H' : Hp} {S : Addr} {s s0 : Sch} (N : NewSch H H' S s (s0.map (·.2))) (nm : (schN s0).Nodup) (k : ∀ p ∈ s0, TabSm p.2) (l : s0.length ≤ 100) : Gp H' (.ref S) (schG s0) (S :: schD s) := by
  have e : schG s = schG s0 := by unfold schG; rw [N.ts]
  rw [← e]
  refine sch_gp N.sk N.ds (N.nm nm) (fun p hp => ?_) ?_ (fun p hp => (N.fd p hp).2.1)
  · obtain ⟨q, h1, h2⟩ := N.mem hp
    rw [← h2]; exact k q h1
  · have := congrArg List.length N.ts
    simp only [List.length_map] at this
    omega
theorem DescAt.isLn {H : Hp} {a : Ads} {t : Tab} (h : DescAt H a t) (k : TabSm t) : ∀ b ∈ adL a, ∃ xs, H b = some (.lst xs) ∧ xs.length ≤ 40 := by
  obtain ⟨h1, ⟨xs, h2, r2⟩, ⟨ys, h3, r3⟩, h4, ⟨zs, h5, r5⟩⟩ := h
  intro b hb
  simp only [adL, List.mem_cons, List.not_mem_nil, or_false] at hb
  rcases hb with rfl | rfl | rfl | rfl
  · exact ⟨_, h2, by rw [r2.length, List.length_map]; exact k.co⟩
  · exact ⟨_, h3, by rw [r3.length, List.length_map]; exact k.ch⟩
  · exact ⟨_, h4, by rw [List.length_map]; exact k.un⟩
  · exact ⟨_, h5, by rw [r5.length, List.length_map]; exact k.rf⟩
theorem desc_part {H : Hp} {a : Ads} (h : H a.d = some (.dK (descD a))) {i : Nat} {x : V} (e : [V.str "columns", V.str "checks", V.str "uniques", V.str "references"][i]? = some x) : ∃ b ∈ adL a, DGet H a.d x (some (.ref b)) := by
  match i, e with
  | 0, e => cases e; exact ⟨a.c, by simp [adL], by have g := DGet.k (k := (Sum.inr ("columns" : Str) : Key)) h; rw [dd_c] at g; exact g⟩
  | 1, e => cases e; exact ⟨a.k, by simp [adL], by have g := DGet.k (k := (Sum.inr ("checks" : Str) : Key)) h; rw [dd_k] at g; exact g⟩
  | 2, e => cases e; exact ⟨a.u, by simp [adL], by have g := DGet.k (k := (Sum.inr ("uniques" : Str) : Key)) h; rw [dd_u] at g; exact g⟩
  | 3, e => cases e; exact ⟨a.r, by simp [adL], by have g := DGet.k (k := (Sum.inr ("references" : Str) : Key)) h; rw [dd_r] at g; exact g⟩
  | n + 4, e => simp at e
theorem sch_getK {H : Hp} {S : Addr} {s : Sch} (h : H S = some (.dK (schK s))) (nm : (schN s).Nodup) {p : Ads × Tab} (hp : p ∈ s) : DGet H S (.str p.2.n) (some (.ref p.1.d)) := by
  have g := DGet.k (k := (Sum.inr p.2.n : Key)) h
  rw [sch_get nm hp] at g
  exact g
end Lt

set_option autoImplicit false
namespace Lt
open PySem PySem.Spec PyProof.Rows L2 TL
/-! ## sorted(d) of a dict of any length, its keys all ints or all texts -/
def txV : Value → Str
  | .str x _ => x
  | _ => ⟨#[]⟩
def ltTx (v u : Value) : Bool := decide (tl (txV v) < tl (txV u))
theorem swo_tx : SrtO.Swo ltTx where
  asym := fun x y h => decide_eq_false (List.lt_asymm (of_decide_eq_true h))
  tr := fun x y z h1 h2 => by
    have a := List.not_lt.mp (of_decide_eq_false h1)
    have b := List.not_lt.mp (of_decide_eq_false h2)
    exact decide_eq_false (List.not_lt.mpr (List.le_trans a b))
theorem tx_mem : ∀ {vs : List Value} {xs : List Str}, StrsAre vs xs → ∀ v ∈ vs, ∃ x t, v = Value.str x t
  | _, _, .nil, v, h => by cases h
  | _, _, .cons x t r, v, h => by
    rcases List.mem_cons.mp h with rfl | h
    · exact ⟨x, t, rfl⟩
    · exact tx_mem r v h
theorem tx_of : ∀ {vs : List Value}, (∀ v ∈ vs, ∃ x t, v = Value.str x t) → StrsAre vs (vs.map txV)
  | [], _ => .nil
  | v :: vs, h => by
    obtain ⟨x, t, rfl⟩ := h v List.mem_cons_self
    exact .cons x t (tx_of fun u hu => h u (List.mem_cons_of_mem _ hu))
theorem tx_back : ∀ {vs : List Value} {xs : List Str}, StrsAre vs xs → vs.map txV = xs
  | _, _, .nil => rfl
  | _, _, .cons x t r => congrArg (x :: ·) (tx_back r)
section
variable {prog : Program} {w : World} {A : Around} {s : Shared}
theorem tx_sortable {a : Addr} {vs : List Value} {xs : List Str} (hT : StrsAre vs xs) (h2 : 2 ≤ vs.length) : SrtO.SortableO prog w A s a vs ltTx := fun hq _ => by
  refine ⟨oneType', fun Q E hq => ?_, fun p q hp hq => ?_⟩
  · cases hT with
    | nil => exact absurd h2 (by decide)
    | cons x t r =>
      cases r with
      | nil => exact absurd h2 (by simp)
      | cons y u r => rw [keyKind_strs (.cons x t (.cons y u r))]; exact wpAny_pure hq
  · obtain ⟨x, t, ex⟩ := tx_mem hT _ hp
    obtain ⟨y, u, ey⟩ := tx_mem hT _ hq
    show wpAny _ _ (keyLt' oneType' p.1 q.1) (fun r s' => s' = _ ∧ r = ltTx p.1 q.1) _ _
    rw [ex, ey, keyLt'_oneType]
    exact oneLt_str ⟨rfl, rfl⟩
end
/-- the order of keys of one kind -/
def kLt : Key → Key → Bool
  | .inl a, .inl b => decide (a < b)
  | .inr a, .inr b => decide (tl a < tl b)
  | .inl _, .inr _ => true
  | .inr _, .inl _ => false
def SortedK (ks : List Key) : Prop := ks.Pairwise fun a b => kLt b a = false
/-- keys all ints or all texts -/
def OneKind (ks : List Key) : Prop := (∃ is : List Int, ks = is.map Sum.inl) ∨ ∃ xs : List Str, ks = xs.map Sum.inr
def rSortK : List V → Hp → VK → Prop := fun xs H Q => ∃ (a : Addr) (kvs : List (Key × V)), xs = [.ref a] ∧ Rd H a (.dK kvs) ∧ OneKind (kvs.map (·.1)) ∧
  ∀ (ys : List Key) (p : Addr), ys.Perm (kvs.map (·.1)) → SortedK ys → H p = none → Q (.ref p) (upd H p (.lst (ys.map kV)))
/-- what the sort's machine hands back of items that all are of one kind -/
theorem one_out {vs out : List Value} {ks : List Key} (hk : (∃ is : List Int, IntsAre vs is ∧ ks = is.map Sum.inl ∧ SrtO.Srtd SrtO.ltIv out ∧ SrtO.Stb SrtO.ltIv out vs) ∨ ∃ xs : List Str, StrsAre vs xs ∧ ks = xs.map Sum.inr ∧ SrtO.Srtd ltTx out ∧ SrtO.Stb ltTx out vs) :
    ∃ ys : List Key, Vals (ys.map kV) out ∧ ys.Perm ks ∧ SortedK ys := by
  rcases hk with ⟨is, hI, rfl, hs, hb⟩ | ⟨xs, hT, rfl, hs, hb⟩
  · obtain ⟨k1, k2, k3⟩ := SrtO.ints_out hI hs hb
    refine ⟨(out.map SrtO.iv).map Sum.inl, ?_, k2.map _, ?_⟩
    · have e : ((out.map SrtO.iv).map Sum.inl).map kV = (out.map SrtO.iv).map V.int := by rw [List.map_map]; rfl
      rw [e]; exact vals_of_ints k1
    · refine List.pairwise_map.mpr (k3.imp fun {x y} h => ?_)
      exact decide_eq_false (by omega)
  · have m : ∀ v ∈ out, ∃ x t, v = Value.str x t := fun v hv => tx_mem hT v (hb.perm.mem_iff.mp hv)
    have k1 := tx_of m
    refine ⟨(out.map txV).map Sum.inr, ?_, ?_, ?_⟩
    · have e : ((out.map txV).map Sum.inr).map kV = (out.map txV).map V.str := by rw [List.map_map]; rfl
      rw [e]; exact vals_of_strs k1
    · have q := hb.perm.map txV
      rw [tx_back hT] at q
      exact q.map _
    · refine List.pairwise_map.mpr (List.pairwise_map.mpr (hs.imp fun {x y} h => ?_))
      exact h
section
variable {X : Cx}
theorem call_sortedK (calm : X.calm = true) : CallR X (.builtin "sorted") rSortK := by
  rintro pins s σ H xs us Q I r ⟨a, kvs, rfl, hd, hone, q⟩
  obtain ⟨u, rfl, rx⟩ := vals1 r
  cases rx
  obtain ⟨z, lo, vs, rel, dd⟩ := dk_rd I.hok hd
  obtain ⟨age, stands⟩ := dd.dictAt
  have hlv : vs.length = kvs.length := rel.length.symm
  have h16 : vs.length ≤ sizeLine := by rw [hlv]; exact z
  refine Calls.call_function_entry kind_sorted plain_sorted entry_sorted (args_sorted1 _) ?_; unfold Builtin.«sorted»
  refine wpAny_bind (m := checkCount "sorted" 1 1 _) (wpAny_pure (wpAny_bind (PySem.W.kdu_collect (A := X.A.in1) (PySem.W.kdl_dict (knd := mixKind X.prog X.w) (kvs := vs) (ep := age) lo) (I.ok.hd calm) stands h16 fun hq tok got hk hgot => ?_)))
  have hal : got.toList.length = vs.length := by rw [Array.length_toList, hgot.1]
  have item : ∀ (j : Nat) (v : Value), got.toList[j]? = some v → ∃ k, (kvs.map (·.1))[j]? = some k ∧ keyIs k v = true := fun j v e => by
    obtain ⟨k, x, e1, e2⟩ := hgot.2 j v (by rw [← Array.getElem?_toList]; exact e)
    refine ⟨k, ?_, e2⟩
    rw [rel.keys, List.getElem?_map, e1]; rfl
  have J : Inv X pins σ H { s with heap := hq, toks := tok } := I.kept hk
  have atNew : (hq.push (seqObj "list" got.toList.toArray 0)).get? hq.objs.size = some (seqObj "list" got.toList.toArray 0) := Heap.get?_push_size _ rfl
  have done : ∀ (out : List Value) (ys : List Key), Vals (ys.map kV) out → ys.Perm (kvs.map (·.1)) → SortedK ys →
      EP X pins σ Q (.ref hq.objs.size) { s with heap := sortedHeap (hq.push (seqObj "list" got.toList.toArray 0)) hq.objs.size got.toList out.toArray, toks := tok } := fun out ys g1 g2 g3 => by
    have hlen : (ys.map kV).length ≤ sizeLine := by
      rw [List.length_map, g2.length_eq, List.length_map, ← hlv]; exact h16
    obtain ⟨e', he'⟩ := PyProof.Rows.sortedHeap_at (vs := got.toList) (out := out.toArray) atNew
    have old : ∀ b u, hq.get? b = some u → (sortedHeap (hq.push (seqObj "list" got.toList.toArray 0)) hq.objs.size got.toList out.toArray).get? b = some u := fun b u e => by
      have hb := Heap.lt_size e
      rw [PyProof.Rows.sortedHeap_old (Nat.ne_of_lt hb) (by rw [size_push']; exact Nat.lt_succ_of_lt hb), Heap.get?_push_of_some _ e]
    exact ⟨.ref hq.objs.size, upd H hq.objs.size (.lst (ys.map kV)), J.laid (t' := tok) old (Nat.le_refl _) ⟨hlen, out, e', g1, he'⟩, rfl, q ys _ g2 g3 (J.hok.fresh (Nat.le_refl _))⟩
  have hz : got.toList.length ≤ sizeLine := by rw [hal]; exact h16
  refine wpAny_bind (wpAny_newList ?_ hz)
  rcases hone with ⟨is, hks⟩ | ⟨ts, hks⟩
  · have hI : IntsAre got.toList is := ints_each (by rw [hal, hlv]; have := congrArg List.length hks; simpa using this) fun j v e => by
      obtain ⟨k, e3, e2⟩ := item j v e
      rw [hks, List.getElem?_map] at e3
      cases e4 : is[j]? with
      | none => rw [e4] at e3; cases e3
      | some y =>
        rw [e4] at e3
        cases e3
        rcases keyIs_shape e2 with ⟨i, t, ek, ev⟩ | ⟨x, t, ek, ev⟩ <;> cases ek
        exact ⟨y, t, rfl, ev⟩
    refine wpAny_bind (wpAny_holding (wpAny_call_entry slot_list_sort ⟨_, atNew, rfl⟩ entry_list_sort
      (SrtO.list_sort_ord (s := { s with heap := hq.push (seqObj "list" got.toList.toArray 0), toks := tok }) SrtO.swo_int atNew hz (fun h2 => SrtO.ints_sortable hI h2) fun out h1 h2 => ⟨_, rfl, ?_⟩) (PyProof.Rows.args_list_sort _)))
    obtain ⟨ys, g1, g2, g3⟩ := one_out (.inl ⟨is, hI, hks, h1, h2⟩)
    exact wpAny_pure ⟨_, rfl, done out ys g1 g2 g3⟩
  · have hT : StrsAre got.toList ts := strs_at (by rw [hal, hlv]; have := congrArg List.length hks; simpa using this) fun j v e => by
      obtain ⟨k, e3, e2⟩ := item j v e
      rw [hks, List.getElem?_map] at e3
      cases e4 : ts[j]? with
      | none => rw [e4] at e3; cases e3
      | some y =>
        rw [e4] at e3
        cases e3
        obtain ⟨t, ev⟩ := Value.isStrOf_shape (x := y) (v := v) e2
        exact ⟨y, t, rfl, ev⟩
    refine wpAny_bind (wpAny_holding (wpAny_call_entry slot_list_sort ⟨_, atNew, rfl⟩ entry_list_sort
      (SrtO.list_sort_ord (s := { s with heap := hq.push (seqObj "list" got.toList.toArray 0), toks := tok }) swo_tx atNew hz (fun h2 => tx_sortable hT h2) fun out h1 h2 => ⟨_, rfl, ?_⟩) (PyProof.Rows.args_list_sort _)))
    obtain ⟨ys, g1, g2, g3⟩ := one_out (.inr ⟨ts, hT, hks, h1, h2⟩)
    exact wpAny_pure ⟨_, rfl, done out ys g1 g2 g3⟩
end
end Lt

set_option autoImplicit false
namespace Lt
open PySem L2 TL
open C8 (pss_cut)
/-! ## the one order of keys -/
def kLe (a b : Key) : Bool := !kLt b a
theorem kLe_total (a b : Key) : (kLe a b || kLe b a) = true := by
  unfold kLe kLt
  rcases a with a | a <;> rcases b with b | b
  · by_cases h : b < a
    · simp [show ¬ a < b by omega]
    · simp [h]
  · rfl
  · rfl
  · by_cases h : tl b < tl a
    · simp [List.lt_asymm h]
    · simp [h]
theorem kLe_trans (a b c : Key) : kLe a b = true → kLe b c = true → kLe a c = true := by
  unfold kLe kLt
  rcases a with a | a <;> rcases b with b | b <;> rcases c with c | c <;> simp
  · omega
  · intro h1 h2
    exact List.le_trans h1 h2
theorem kLe_anti (a b : Key) : kLe a b = true → kLe b a = true → a = b := by
  unfold kLe kLt
  rcases a with a | a <;> rcases b with b | b <;> simp
  · omega
  · intro h1 h2
    exact ext_tl (List.le_antisymm h1 h2)
def sortK (ks : List Key) : List Key := ks.mergeSort kLe
theorem sortK_perm (ks : List Key) : (sortK ks).Perm ks := List.mergeSort_perm ks kLe
theorem sortK_srt (ks : List Key) : SortedK (sortK ks) := (List.pairwise_mergeSort kLe_trans kLe_total ks).imp fun {a b} h => by
  unfold kLe at h
  simpa using h
theorem sortK_eq {ys ks : List Key} (p : ys.Perm ks) (s : SortedK ys) : ys = sortK ks := by
  refine List.Perm.eq_of_pairwise (le := fun a b => kLt b a = false) (fun a b _ _ h1 h2 => kLe_anti a b ?_ ?_) s (sortK_srt ks) (p.trans (sortK_perm ks).symm)
  · unfold kLe; rw [h1]; rfl
  · unfold kLe; rw [h2]; rfl
theorem sortK_len (ks : List Key) : (sortK ks).length = ks.length := (sortK_perm ks).length_eq
theorem sortK_mem {ks : List Key} {k : Key} : k ∈ sortK ks ↔ k ∈ ks := (sortK_perm ks).mem_iff
theorem sortK_nd {ks : List Key} (h : ks.Nodup) : (sortK ks).Nodup := (sortK_perm ks).nodup_iff.mpr h
/-! ## states -/
structure Ro where
  k : Key
  a : Addr
  vs : List V
def roK (rs : List Ro) : List (Key × V) := rs.map fun r => (r.k, V.ref r.a)
def roN (rs : List Ro) : List Key := rs.map fun r => r.k
theorem roK_keys (rs : List Ro) : (roK rs).map (·.1) = roN rs := by unfold roK roN; rw [List.map_map]; rfl
/-- the rows rs stand in the dict at d -/
structure TAt (H : Hp) (d : Addr) (rs : List Ro) : Prop where
  dk : H d = some (.dK (roK rs))
  rt : ∀ r ∈ rs, H r.a = some (.tup r.vs)
  nd : (roN rs).Nodup
theorem TAt.mono {H H' : Hp} {d : Addr} {rs : List Ro} (h : TAt H d rs) (kt : KeepT H H') (e : ∀ o, H d = some o → H' d = some o) : TAt H' d rs := ⟨e _ h.dk, fun r hr => kt _ _ (h.rt r hr), h.nd⟩
theorem ro_one {rs : List Ro} (nd : (roN rs).Nodup) {r q : Ro} (hr : r ∈ rs) (hq : q ∈ rs) (e : r.k = q.k) : r = q := by
  obtain ⟨i, hi, ei⟩ := List.getElem_of_mem hr
  obtain ⟨j, hj, ej⟩ := List.getElem_of_mem hq
  have a1 : (roN rs)[i]? = some r.k := by unfold roN; rw [List.getElem?_map, List.getElem?_eq_getElem hi, ei]; rfl
  have a2 : (roN rs)[j]? = some r.k := by unfold roN; rw [List.getElem?_map, List.getElem?_eq_getElem hj, ej]; exact congrArg some e.symm
  have := nd_ix nd a1 a2
  subst this
  rw [← ei, ← ej]
theorem ro_get {rs : List Ro} (nd : (roN rs).Nodup) {r : Ro} (hr : r ∈ rs) : valV (roK rs) r.k = some (.ref r.a) := by
  obtain ⟨i, hi, e⟩ := List.getElem_of_mem hr
  refine valV_at (i := i) (by rw [roK_keys]; exact nd) ?_
  unfold roK
  rw [List.getElem?_map, List.getElem?_eq_getElem hi, e]
  rfl
theorem ro_none {rs : List Ro} {k : Key} (h : k ∉ roN rs) : valV (roK rs) k = none := by
  cases e : valV (roK rs) k with
  | none => rfl
  | some v =>
    have := valV_in e
    rw [roK_keys] at this
    exact absurd this h
theorem ro_mem {rs : List Ro} {k : Key} (h : k ∈ roN rs) : ∃ r ∈ rs, r.k = k := by
  obtain ⟨r, h1, h2⟩ := List.mem_map.mp h
  exact ⟨r, h1, h2⟩
theorem TAt.get {H : Hp} {d : Addr} {rs : List Ro} (h : TAt H d rs) {r : Ro} (hr : r ∈ rs) : DGet H d (kV r.k) (some (.ref r.a)) := by
  have g := DGet.k (k := r.k) h.dk
  rw [ro_get h.nd hr] at g
  exact g
/-- rs with the row r put in -/
def putRo (rs : List Ro) (r : Ro) : List Ro := if (rs.any fun q => decide (q.k = r.k)) = true then rs.map (fun q => if q.k = r.k then ⟨q.k, r.a, r.vs⟩ else q) else rs ++ [r]
theorem putRo_K (rs : List Ro) (r : Ro) : putK (roK rs) r.k (.ref r.a) = roK (putRo rs r) := by
  unfold putK putRo roK
  rw [List.any_map]
  have e : ((fun kv : Key × V => decide (kv.1 = r.k)) ∘ fun r => (r.k, V.ref r.a)) = fun q : Ro => decide (q.k = r.k) := rfl
  rw [e]
  split
  · rw [List.map_map, List.map_map]
    refine List.map_congr_left fun q _ => ?_
    show (if q.k = r.k then (q.k, V.ref r.a) else (q.k, V.ref q.a)) = _
    show _ = ((if q.k = r.k then (⟨q.k, r.a, r.vs⟩ : Ro) else q).k, V.ref (if q.k = r.k then (⟨q.k, r.a, r.vs⟩ : Ro) else q).a)
    split <;> rfl
  · rw [List.map_append]; rfl
theorem putRo_N (rs : List Ro) (r : Ro) : (roN (putRo rs r) = roN rs ∧ r.k ∈ roN rs) ∨ (roN (putRo rs r) = roN rs ++ [r.k] ∧ r.k ∉ roN rs) := by
  unfold putRo roN
  by_cases h : (rs.any fun q => decide (q.k = r.k)) = true
  · have h2 : r.k ∈ rs.map fun r => r.k := by
      obtain ⟨q, h1, h2⟩ := List.any_eq_true.mp h
      exact List.mem_map.mpr ⟨q, h1, of_decide_eq_true h2⟩
    rw [if_pos h]
    refine .inl ⟨?_, h2⟩
    rw [List.map_map]
    refine List.map_congr_left fun q _ => ?_
    show (if q.k = r.k then (⟨q.k, r.a, r.vs⟩ : Ro) else q).k = q.k
    split <;> rfl
  · have h2 : ¬ r.k ∈ rs.map fun r => r.k := fun z => by
      obtain ⟨q, h1, h2⟩ := List.mem_map.mp z
      exact h (List.any_eq_true.mpr ⟨q, h1, decide_eq_true h2⟩)
    rw [if_neg h]
    exact .inr ⟨by rw [List.map_append]; rfl, h2⟩
theorem putRo_nd {rs : List Ro} (nd : (roN rs).Nodup) (r : Ro) : (roN (putRo rs r)).Nodup := by
  rcases putRo_N rs r with ⟨e, _⟩ | ⟨e, h⟩ <;> rw [e]
  · exact nd
  · refine List.nodup_append.mpr ⟨nd, by simp, fun x hx y hy => ?_⟩
    have : y = r.k := by simpa using hy
    subst this
    rintro rfl
    exact h hx
theorem putRo_len (rs : List Ro) (r : Ro) : (putRo rs r).length ≤ rs.length + 1 := by
  unfold putRo
  split
  · rw [List.length_map]; omega
  · rw [List.length_append]; simp
/-- a row put in is the one, or one of before -/
theorem putRo_mem {rs : List Ro} {r q : Ro} (h : q ∈ putRo rs r) : (q.k = r.k ∧ q.a = r.a ∧ q.vs = r.vs) ∨ q ∈ rs := by
  unfold putRo at h
  split at h
  · obtain ⟨x, h1, h2⟩ := List.mem_map.mp h
    split at h2
    · rename_i e
      rw [← h2]
      exact .inl ⟨e, rfl, rfl⟩
    · rw [← h2]; exact .inr h1
  · rcases List.mem_append.mp h with h | h
    · exact .inr h
    · rw [List.mem_singleton.mp h]; exact .inl ⟨rfl, rfl, rfl⟩
/-- the rows of a table fit its columns -/
structure RowFit (cols : List Col) (r : Ro) : Prop where
  k : ∀ c, cols[0]? = some c → ValOf c.k false (kV r.k)
  r : RestOf cols r.vs
theorem one_kind {cols : List Col} {rs : List Ro} {c : Col} (hc : cols[0]? = some c) (h : ∀ r ∈ rs, RowFit cols r) : OneKind (roN rs) := by
  by_cases e : c.k = ("int" : Str)
  · refine .inl ⟨(roN rs).map (fun k => match k with | .inl i => i | .inr _ => 0), ?_⟩
    rw [List.map_map]
    refine (List.map_congr_left (g := id) fun k hk => ?_).trans (List.map_id _) |>.symm
    obtain ⟨r, hr, rfl⟩ := ro_mem hk
    have v := (h r hr).k c hc
    cases hk2 : r.k with
    | inl i => rfl
    | inr x =>
      rw [hk2] at v
      rcases v with ⟨z, _⟩ | ⟨_, i, z, _⟩ | ⟨z, _⟩
      · cases z
      · cases z
      · exact absurd e z
  · refine .inr ⟨(roN rs).map (fun k => match k with | .inl i => "" | .inr x => x), ?_⟩
    rw [List.map_map]
    refine (List.map_congr_left (g := id) fun k hk => ?_).trans (List.map_id _) |>.symm
    obtain ⟨r, hr, rfl⟩ := ro_mem hk
    have v := (h r hr).k c hc
    cases hk2 : r.k with
    | inr x => rfl
    | inl i =>
      rw [hk2] at v
      rcases v with ⟨z, _⟩ | ⟨z, _⟩ | ⟨_, y, z, _⟩
      · cases z
      · exact absurd z e
      · cases z
/-! ### rows as tuples -/
def restAt (rs : List Ro) (k : Key) : List V := match rs.find? (fun r => decide (r.k = k)) with | some r => r.vs | none => []
def rowsM (rs : List Ro) : List (List V) := (sortK (roN rs)).map fun k => kV k :: restAt rs k
theorem restAt_eq {rs : List Ro} (nd : (roN rs).Nodup) {r : Ro} (hr : r ∈ rs) : restAt rs r.k = r.vs := by
  unfold restAt
  cases e : rs.find? (fun q => decide (q.k = r.k)) with
  | none =>
    have := List.find?_eq_none.mp e r hr
    simp at this
  | some q =>
    have h1 := List.mem_of_find?_eq_some e
    have h2 : q.k = r.k := by simpa using List.find?_some e
    rw [ro_one nd h1 hr h2]
theorem rowsM_len (rs : List Ro) : (rowsM rs).length = rs.length := by unfold rowsM; rw [List.length_map, sortK_len]; unfold roN; rw [List.length_map]
theorem rowsM_mem {rs : List Ro} (nd : (roN rs).Nodup) {x : List V} (h : x ∈ rowsM rs) : ∃ r ∈ rs, x = kV r.k :: r.vs := by
  obtain ⟨k, hk, rfl⟩ := List.mem_map.mp h
  obtain ⟨r, hr, rfl⟩ := ro_mem (sortK_mem.mp hk)
  exact ⟨r, hr, by rw [restAt_eq nd hr]⟩
/-- a list of tuples stands at L -/
def RowsAt (H : Hp) (L : Addr) (rws : List (List V)) : Prop := ∃ as : List Addr, H L = some (.lst (as.map V.ref)) ∧ as.length = rws.length ∧ ∀ (i : Nat) (a : Addr) (r : List V), as[i]? = some a → rws[i]? = some r → H a = some (.tup r)
theorem RowsAt.mono {H H' : Hp} {L : Addr} {rws : List (List V)} (h : RowsAt H L rws) (kt : KeepT H H') (e : ∀ o, H L = some o → H' L = some o) : RowsAt H' L rws := by
  obtain ⟨as, h1, h2, h3⟩ := h
  exact ⟨as, e _ h1, h2, fun i a r ha hr => kt _ _ (h3 i a r ha hr)⟩
theorem RowsAt.same {H H' : Hp} {L : Addr} {rws : List (List V)} (h : RowsAt H L rws) (e : Same H H') : RowsAt H' L rws := h.mono (KeepT.of e) fun o => e _ _
theorem RowsAt.get {H : Hp} {L : Addr} {rws : List (List V)} (h : RowsAt H L rws) : ∃ xs, H L = some (.lst xs) ∧ xs.length = rws.length ∧ ∀ (i : Nat) (x : V), xs[i]? = some x → ∃ (a : Addr) (r : List V), x = .ref a ∧ rws[i]? = some r ∧ H a = some (.tup r) := by
  obtain ⟨as, h1, h2, h3⟩ := h
  refine ⟨_, h1, by rw [List.length_map]; exact h2, fun i x hx => ?_⟩
  rw [List.getElem?_map] at hx
  cases e : as[i]? with
  | none => rw [e] at hx; cases hx
  | some a =>
    rw [e] at hx
    cases hx
    have hi := (List.getElem?_eq_some_iff.mp e).1
    have er : rws[i]? = some rws[i] := List.getElem?_eq_getElem (by omega)
    exact ⟨a, rws[i], rfl, er, h3 i a _ e er⟩
/-- the state of a table, by its name -/
structure TS where
  n : Str
  d : Addr
  rs : List Ro
def stK (st : List TS) : List (Key × V) := st.map fun p => ((Sum.inr p.n : Key), V.ref p.d)
def stN (st : List TS) : List Str := st.map fun p => p.n
theorem st_keys (st : List TS) : (stK st).map (·.1) = (stN st).map Sum.inr := by unfold stK stN; rw [List.map_map, List.map_map]; rfl
structure StAt (H : Hp) (T : Addr) (st : List TS) : Prop where
  sk : H T = some (.dK (stK st))
  ds : ∀ p ∈ st, TAt H p.d p.rs
  nm : (stN st).Nodup
theorem StAt.mono {H H' : Hp} {T : Addr} {st : List TS} (h : StAt H T st) (e : Same H H') : StAt H' T st := ⟨e _ _ h.sk, fun p hp => (h.ds p hp).mono (KeepT.of e) fun o => e _ _, h.nm⟩
theorem st_nd {st : List TS} (h : (stN st).Nodup) : ((stK st).map (·.1)).Nodup := by
  rw [st_keys]
  exact List.Pairwise.map _ (fun a b e z => e (Sum.inr.inj z)) h
theorem st_get {st : List TS} (h : (stN st).Nodup) {p : TS} (hp : p ∈ st) : valV (stK st) (Sum.inr p.n : Key) = some (.ref p.d) := by
  obtain ⟨i, hi, e⟩ := List.getElem_of_mem hp
  refine valV_at (i := i) (st_nd h) ?_
  unfold stK
  rw [List.getElem?_map, List.getElem?_eq_getElem hi, e]
  rfl
theorem StAt.get {H : Hp} {T : Addr} {st : List TS} (h : StAt H T st) {p : TS} (hp : p ∈ st) : DGet H T (.str p.n) (some (.ref p.d)) := by
  have g := DGet.k (k := (Sum.inr p.n : Key)) h.sk
  rw [st_get h.nm hp] at g
  exact g
theorem st_in {st : List TS} {n : Str} (h : n ∈ stN st) : ∃ p ∈ st, p.n = n := by
  obtain ⟨p, h1, h2⟩ := List.mem_map.mp h
  exact ⟨p, h1, h2⟩
theorem st_one {st : List TS} (h : (stN st).Nodup) {p q : TS} (hp : p ∈ st) (hq : q ∈ st) (e : p.n = q.n) : p = q := by
  obtain ⟨i, hi, ei⟩ := List.getElem_of_mem hp
  obtain ⟨j, hj, ej⟩ := List.getElem_of_mem hq
  have a1 : (stN st)[i]? = some p.n := by unfold stN; rw [List.getElem?_map, List.getElem?_eq_getElem hi, ei]; rfl
  have a2 : (stN st)[j]? = some p.n := by unfold stN; rw [List.getElem?_map, List.getElem?_eq_getElem hj, ej]; exact congrArg some e.symm
  have := nd_ix h a1 a2
  subst this
  rw [← ei, ← ej]
/-! ### a state as data -/
def rowG (vs : List V) : G := .t (vs.map G.s)
def tabStG (rs : List Ro) : G := .d (rs.map fun r => (r.k, rowG r.vs))
def stG (st : List TS) : G := .d (st.map fun p => ((Sum.inr p.n : Key), tabStG p.rs))
theorem scals_L {H : Hp} : ∀ {xs : List V}, (∀ v ∈ xs, isScal v = true) → GpL H xs (xs.map G.s) []
  | [], _ => .nil
  | x :: r, h => GpL.cons (D := []) (E := []) (.s (h x List.mem_cons_self)) (scals_L fun v hv => h v (List.mem_cons_of_mem _ hv))
theorem rows_gp {H : Hp} : ∀ {rs : List Ro}, (∀ r ∈ rs, H r.a = some (.tup r.vs)) → (∀ r ∈ rs, r.vs.length ≤ 100 ∧ ∀ v ∈ r.vs, isScal v = true) → GpK H (roK rs) (rs.map fun r => (r.k, rowG r.vs)) []
  | [], _, _ => .nil
  | r :: rs, h, k => by
    have := rows_gp (fun q hq => h q (List.mem_cons_of_mem _ hq)) (fun q hq => k q (List.mem_cons_of_mem _ hq))
    have k1 := k r List.mem_cons_self
    exact GpK.cons (D := []) (E := []) (.t (h r List.mem_cons_self) (by omega) (scals_L k1.2)) this
theorem RestOf.scal {cols : List Col} {vs : List V} (h : RestOf cols vs) : ∀ v ∈ vs, isScal v = true := fun v hv => by
  obtain ⟨i, hi, e⟩ := List.getElem_of_mem hv
  have := h.1
  exact (h.2 i cols[i + 1] v (List.getElem?_eq_getElem (by omega)) (by rw [List.getElem?_eq_getElem hi, e])).scal
/-- the rows of a table: few, and each fits -/
structure TabFit (cols : List Col) (rs : List Ro) : Prop where
  l : rs.length ≤ 200
  f : ∀ r ∈ rs, RowFit cols r
theorem tabst_gp {H : Hp} {d : Addr} {rs : List Ro} {cols : List Col} (h : TAt H d rs) (f : TabFit cols rs) (hc : cols.length ≤ 50) : Gp H (.ref d) (tabStG rs) [d] := by
  have := f.l
  refine .d h.dk (by unfold roK; rw [List.length_map]; omega) (by rw [roK_keys]; exact h.nd) (rows_gp h.rt fun r hr => ?_) (by intro z; cases z)
  have k := (f.f r hr).r
  have := k.1
  exact ⟨by omega, k.scal⟩
theorem tabst_dep (rs : List Ro) : (tabStG rs).dep ≤ 2 := by
  have : depK (rs.map fun r => (r.k, rowG r.vs)) ≤ 1 := depK_le fun p hp => by
    obtain ⟨r, _, rfl⟩ := List.mem_map.mp hp
    have : depL (r.vs.map G.s) ≤ 0 := depL_le fun g hg => by
      obtain ⟨v, _, rfl⟩ := List.mem_map.mp hg
      exact Nat.le_refl 0
    simp only [rowG, G.dep]; omega
  simp only [tabStG, G.dep]; omega
theorem st_dep (st : List TS) : (stG st).dep ≤ 3 := by
  have : depK (st.map fun p => ((Sum.inr p.n : Key), tabStG p.rs)) ≤ 2 := depK_le fun p hp => by
    obtain ⟨t, _, rfl⟩ := List.mem_map.mp hp
    exact tabst_dep _
  simp only [stG, G.dep]; omega
theorem sts_gp {H : Hp} : ∀ {st : List TS}, (∀ p ∈ st, TAt H p.d p.rs) → (∀ p ∈ st, ∃ cols : List Col, cols.length ≤ 50 ∧ TabFit cols p.rs) → GpK H (stK st) (st.map fun p => ((Sum.inr p.n : Key), tabStG p.rs)) (st.map fun p => p.d)
  | [], _, _ => .nil
  | p :: r, h, k => by
    have q := sts_gp (fun q hq => h q (List.mem_cons_of_mem _ hq)) (fun q hq => k q (List.mem_cons_of_mem _ hq))
    obtain ⟨cols, h1, h2⟩ := k p List.mem_cons_self
    exact GpK.cons (D := [p.d]) (tabst_gp (h p List.mem_cons_self) h2 h1) q
theorem StAt.g {H : Hp} {T : Addr} {st : List TS} (A : StAt H T st) (k : ∀ p ∈ st, ∃ cols : List Col, cols.length ≤ 50 ∧ TabFit cols p.rs) (l : st.length ≤ 100) (ne : ∀ p ∈ st, p.d ≠ T) : Gp H (.ref T) (stG st) (T :: st.map fun p => p.d) := by
  refine .d A.sk (by unfold stK; rw [List.length_map]; omega) (st_nd A.nm) (sts_gp A.ds k) fun hm => ?_
  obtain ⟨p, hp, e⟩ := List.mem_map.mp hm
  exact ne p hp e
end Lt

set_option autoImplicit false
namespace Lt
open PySem L2 TL
open C8 (pss_cut)
theorem alike_scal {v w : V} (h : Alike v w) : scal v w = true := by rcases h with ⟨a, b, rfl, rfl⟩ | ⟨a, b, rfl, rfl⟩ <;> rfl
def spCompares : Sp := fun vs H Q _ => ∃ v op w, vs = [v, .str op, w] ∧ Alike v w ∧ Q (.bl (cmpM v op w)) H
def spClauseH (K : PySem.W.Frag) : Sp := fun vs H Q _ => ∃ (a n r : Addr) (cl : Cl) (names : List Str) (row : List V), vs = [.ref a, .ref n, .ref r] ∧ SqT K H a [.str cl.n, .str cl.op, cl.v] ∧ SqL K H n (names.map V.str) ∧ SqT K H r row ∧ row.length = names.length ∧
  isScal (at_ names row cl.n) = true ∧ ClFit names row cl ∧ Q (.bl (clauseM names row cl)) H
structure Ask (H : Hp) (c n r : Addr) (cond : Cond) (names : List Str) (row : List V) : Prop where
  cn : Tp H (.ref c) (condD cond)
  nm : H n = some (.lst (names.map V.str))
  rw : H r = some (.tup row)
  ln : row.length = names.length
  sc : ∀ v ∈ row, isScal v = true
  ft : ∀ a ∈ cond, ∀ cl ∈ a, ClFit names row cl
  sm : ∀ a ∈ cond, a.length ≤ 100
def spHolds : Sp := fun vs H Q _ => ∃ (c n r : Addr) (cond : Cond) (names : List Str) (row : List V), vs = [.ref c, .ref n, .ref r] ∧ Ask H c n r cond names row ∧ ∀ H', Same H H' → Q (.bl (holdsM names row cond)) H'
theorem Ask.mono {H H' : Hp} {c n r : Addr} {cond : Cond} {names : List Str} {row : List V} (A : Ask H c n r cond names row) (s : Same H H') : Ask H' c n r cond names row :=
  ⟨A.cn.mono (KeepT.of s), s _ _ A.nm, s _ _ A.rw, A.ln, A.sc, A.ft, A.sm⟩
theorem at_scal {names : List Str} {row : List V} {n : Str} (h : ∀ v ∈ row, isScal v = true) : isScal (at_ names row n) = true := by
  unfold at_
  rw [List.getD_eq_getElem?_getD]
  cases e : row[names.idxOf n]? with
  | none => rfl
  | some v => exact h v (List.mem_of_getElem? e)
theorem all_take {α : Type} {f : α → Bool} {xs : List α} {i : Nat} {x : α} (e : xs[i]? = some x) : (xs.take (i + 1)).all f = ((xs.take i).all f && f x) := by
  rw [List.take_add_one, e, List.all_append]; simp
theorem any_take {α : Type} {f : α → Bool} {xs : List α} {i : Nat} {x : α} (e : xs[i]? = some x) : (xs.take (i + 1)).any f = ((xs.take i).any f || f x) := by
  rw [List.take_add_one, e, List.any_append]; simp
def spNear : Sp := fun vs H Q _ => ∃ (t tc : Addr) (cs : List Int) (c n r : Addr) (cond : Cond) (names : List Str) (row : List V), vs = [.ref t, .ref c, .ref n, .ref r] ∧ TapeAt H t tc cs ∧ Ask H c n r cond names row ∧ cond.length ≤ 100 ∧
  ∀ p cond' H', Tp H' (.ref p) (condD cond') → (∀ a ∈ cond', ∀ cl ∈ a, ClFit names row cl) → (∀ a ∈ cond', a.length ≤ 100) → TapeAt H' t tc cs → SameX t H H' → Q (.ref p) H'

/-! ## faults -/
def headV (r : List V) : V := r.headD .non
def badC (tab : Tab) (r : List V) : Bool := !(tab.ch.all (holdsM (colNs tab.cols) r))
def clash (ns : List Str) (x y : List V) (n : Str) : Bool := !decide (at_ ns y n = .non) && decide (at_ ns x n = at_ ns y n)
def badU (tab : Tab) (earlier : List (List V)) (r : List V) : Bool := tab.un.any fun n => earlier.any fun x => clash (colNs tab.cols) x r n
def badR (ks : Str → List Key) (tab : Tab) (r : List V) : Bool := tab.rf.any fun p => !decide (at_ (colNs tab.cols) r p.1 = .non) && !((ks p.2).any fun k => decide (kV k = at_ (colNs tab.cols) r p.1))
def keysF (rws : List (List V)) : List V := (rws.drop 60).map headV
def keysC (tab : Tab) (rws : List (List V)) : List V := (rws.filter (badC tab)).map headV
def keysU (tab : Tab) (rws : List (List V)) : List V := ((List.range rws.length).filter fun k => badU tab (rws.take k) (rws.getD k [])).map fun k => headV (rws.getD k [])
def keysR (ks : Str → List Key) (tab : Tab) (rws : List (List V)) : List V := (rws.filter (badR ks tab)).map headV
def faultT (ks : Str → List Key) (tab : Tab) (rws : List (List V)) : Option (Str × V) :=
  match keysF rws with
  | k :: _ => some ("full", k)
  | [] => match keysC tab rws with
    | k :: _ => some ("check", k)
    | [] => match keysU tab rws with
      | k :: _ => some ("unique", k)
      | [] => match keysR ks tab rws with
        | k :: _ => some ("reference", k)
        | [] => none
/-- rows that fit the columns -/
structure RowsFit (cols : List Col) (rws : List (List V)) : Prop where
  l : rws.length ≤ 200
  n : ∀ r ∈ rws, r.length = cols.length
  v : ∀ r ∈ rws, ∀ (i : Nat) (col : Col) (v : V), cols[i]? = some col → r[i]? = some v → ValOf col.k col.b v
theorem RowsFit.scal {cols : List Col} {rws : List (List V)} (h : RowsFit cols rws) {r : List V} (hr : r ∈ rws) : ∀ v ∈ r, isScal v = true := fun v hv => by
  obtain ⟨i, hi, e⟩ := List.getElem_of_mem hv
  have := h.n r hr
  exact (h.v r hr i cols[i] v (List.getElem?_eq_getElem (by omega)) (by rw [List.getElem?_eq_getElem hi, e])).scal
theorem rowsM_fit {cols : List Col} {rs : List Ro} (nd : (roN rs).Nodup) (f : TabFit cols rs) (hd : ∀ c, cols[0]? = some c → c.b = false) : RowsFit cols (rowsM rs) := by
  refine ⟨by rw [rowsM_len]; exact f.l, fun x hx => ?_, fun x hx i col v hc hv => ?_⟩
  · obtain ⟨r, hr, rfl⟩ := rowsM_mem nd hx
    have := (f.f r hr).r.1
    rw [List.length_cons]; omega
  · obtain ⟨r, hr, rfl⟩ := rowsM_mem nd hx
    match i, hc, hv with
    | 0, hc, hv =>
      have hv' : kV r.k = v := by simpa using hv
      rw [← hv', hd col hc]
      exact (f.f r hr).k col hc
    | i + 1, hc, hv => exact (f.f r hr).r.2 i col v hc (by simpa using hv)
theorem RowsFit.ne {cols : List Col} {rws : List (List V)} (h : RowsFit cols rws) (l0 : 1 ≤ cols.length) {r : List V} (hr : r ∈ rws) : ∃ v vs, r = v :: vs := by
  cases r with
  | nil => have := h.n _ hr; simp at this; omega
  | cons v vs => exact ⟨v, vs, rfl⟩
def spRows : Sp := fun vs H Q _ => ∃ (T : Addr) (n : Str) (d : Addr) (rs : List Ro), vs = [.ref T, .str n] ∧ DGet H T (.str n) (some (.ref d)) ∧ TAt H d rs ∧ OneKind (roN rs) ∧ (∀ r ∈ rs, r.vs.length ≤ 50) ∧ rs.length ≤ 200 ∧ ∀ L H', RowsAt H' L (rowsM rs) → Same H H' → H L = none → Q (.ref L) H'
def spSortedRows : Sp := fun vs H Q _ => ∃ (d : Addr) (rs : List Ro), vs = [.ref d] ∧ TAt H d rs ∧ OneKind (roN rs) ∧ (∀ r ∈ rs, r.vs.length ≤ 50) ∧ rs.length ≤ 200 ∧ ∀ L H', RowsAt H' L (rowsM rs) → Same H H' → H L = none → Q (.ref L) H'
end Lt

set_option autoImplicit false
namespace Lt
open PySem L2 TL
open C8 (pss_cut)
section
variable {α : Type} [DecidableEq α]
theorem valV_isSome : ∀ {kvs : List (α × V)} {k : α}, (valV kvs k).isSome = true ↔ k ∈ kvs.map (·.1)
  | [], k => by simp [valV]
  | (k0, v0) :: r, k => by
    rw [List.map_cons, List.mem_cons]
    by_cases h : k0 = k
    · rw [valV_pos h]; simp [h]
    · rw [valV_neg h, valV_isSome]
      exact ⟨.inr, fun z => z.resolve_left fun e => h e.symm⟩
theorem putK_mem {kvs : List (α × V)} {k k' : α} {v : V} : k' ∈ (putK kvs k v).map (·.1) ↔ k' = k ∨ k' ∈ kvs.map (·.1) := by
  unfold putK
  split
  · rename_i h
    obtain ⟨p, h1, h2⟩ := List.any_eq_true.mp h
    have hk : k ∈ kvs.map (·.1) := List.mem_map.mpr ⟨p, h1, of_decide_eq_true h2⟩
    have e : (kvs.map fun kv => if kv.1 = k then (kv.1, v) else kv).map (·.1) = kvs.map (·.1) := by
      rw [List.map_map]
      refine List.map_congr_left fun q _ => ?_
      show (if q.1 = k then (q.1, v) else q).1 = q.1
      split <;> rfl
    rw [e]
    exact ⟨.inr, fun z => z.elim (fun e => e ▸ hk) id⟩
  · rw [List.map_append, List.mem_append]
    simp only [List.map_cons, List.map_nil, List.mem_singleton]
    exact ⟨fun z => z.elim .inr .inl, fun z => z.elim .inr .inl⟩
end
def vKey : V → Key
  | .int i => .inl i
  | .str x => .inr x
  | _ => .inl 0
theorem kV_vKey {k : Str} {b : Bool} {v : V} (h : ValOf k b v) (n : v ≠ .non) : kV (vKey v) = v := by
  rcases h with ⟨_, rfl⟩ | ⟨_, i, rfl, _⟩ | ⟨_, z, rfl, _⟩
  · exact absurd rfl n
  · rfl
  · rfl
/-- what the uniques say of a row: its pairs of place and value -/
def givenM (tab : Tab) (r : List V) : List (List Key) := (tab.un.filter fun n => !decide (at_ (colNs tab.cols) r n = .non)).map fun n => [Sum.inl (((colNs tab.cols).idxOf n : Nat) : Int), vKey (at_ (colNs tab.cols) r n)]
theorem given_mem {tab : Tab} {r : List V} {M : List Key} : M ∈ givenM tab r ↔ ∃ n ∈ tab.un, at_ (colNs tab.cols) r n ≠ .non ∧ M = [Sum.inl (((colNs tab.cols).idxOf n : Nat) : Int), vKey (at_ (colNs tab.cols) r n)] := by
  unfold givenM
  rw [List.mem_map]
  constructor
  · rintro ⟨n, h1, rfl⟩
    obtain ⟨h2, h3⟩ := List.mem_filter.mp h1
    exact ⟨n, h2, by simpa using h3, rfl⟩
  · rintro ⟨n, h1, h2, rfl⟩
    exact ⟨n, List.mem_filter.mpr ⟨h1, by simpa using h2⟩, rfl⟩
theorem at_val {cols : List Col} {rws : List (List V)} (F : RowsFit cols rws) {r : List V} (hr : r ∈ rws) {n : Str} (hn : n ∈ colNs cols) : ∃ k b, ValOf k b (at_ (colNs cols) r n) := by
  obtain ⟨j, e1, e2, _, _⟩ := idx_str hn
  have hj : j < cols.length := by unfold colNs at e2; rwa [List.length_map] at e2
  have hl := F.n r hr
  have er : r[j]? = some r[j] := List.getElem?_eq_getElem (by omega)
  have ea : at_ (colNs cols) r n = r[j] := by unfold at_; rw [← e1]; exact getD_some er
  rw [ea]
  exact ⟨_, _, F.v r hr j cols[j] _ (List.getElem?_eq_getElem hj) er⟩
theorem idx_inj {ns : List Str} {n m : Str} (hn : n ∈ ns) (hm : m ∈ ns) (e : ns.idxOf n = ns.idxOf m) : n = m := by
  obtain ⟨j, e1, e2, e3, _⟩ := idx_str hn
  obtain ⟨k, f1, f2, f3, _⟩ := idx_str hm
  have : j = k := by omega
  subst this
  rw [e3] at f3
  exact Option.some.inj f3
/-- a pair that an earlier row has -/
theorem badU_iff {fr : List (Str × List Col)} {tab : Tab} (ok : TabOk fr tab) {rws : List (List V)} (F : RowsFit tab.cols rws) {i : Nat} {r : List V} (hr : rws[i]? = some r) :
    ((∃ M ∈ givenM tab r, ∃ x ∈ rws.take i, M ∈ givenM tab x) ↔ badU tab (rws.take i) r = true) := by
  have hm := List.mem_of_getElem? hr
  have un : ∀ n ∈ tab.un, n ∈ colNs tab.cols := fun n hn => by
    have := ok.uc n hn
    unfold colNs at this ⊢
    rw [List.map_drop] at this
    exact List.mem_of_mem_drop this
  constructor
  · rintro ⟨M, h1, x, hx, h2⟩
    obtain ⟨n, n1, n2, rfl⟩ := given_mem.mp h1
    obtain ⟨m, m1, m2, e⟩ := given_mem.mp h2
    have hxm := List.mem_of_mem_take hx
    have e1 : (((colNs tab.cols).idxOf n : Nat) : Int) = (((colNs tab.cols).idxOf m : Nat) : Int) := Sum.inl.inj (List.cons.inj e).1
    have e2 : vKey (at_ (colNs tab.cols) r n) = vKey (at_ (colNs tab.cols) x m) := (List.cons.inj (List.cons.inj e).2).1
    have enm : n = m := idx_inj (un n n1) (un m m1) (by omega)
    subst enm
    obtain ⟨_, _, v1⟩ := at_val F hm (un n n1)
    obtain ⟨_, _, v2⟩ := at_val F hxm (un n n1)
    unfold badU
    refine List.any_eq_true.mpr ⟨n, n1, List.any_eq_true.mpr ⟨x, hx, ?_⟩⟩
    unfold clash
    rw [decide_eq_false n2, decide_eq_true (show at_ (colNs tab.cols) x n = at_ (colNs tab.cols) r n by rw [← kV_vKey v2 m2, ← e2, kV_vKey v1 n2])]
    rfl
  · intro h
    unfold badU at h
    obtain ⟨n, n1, h⟩ := List.any_eq_true.mp h
    obtain ⟨x, hx, h⟩ := List.any_eq_true.mp h
    unfold clash at h
    simp only [Bool.and_eq_true, Bool.not_eq_true', decide_eq_false_iff_not, decide_eq_true_eq] at h
    refine ⟨_, given_mem.mpr ⟨n, n1, h.1, rfl⟩, x, hx, given_mem.mpr ⟨n, n1, by rw [h.2]; exact h.1, by rw [h.2]⟩⟩
theorem given_len (tab : Tab) (r : List V) : (givenM tab r).length ≤ tab.un.length := by unfold givenM; rw [List.length_map]; exact List.length_filter_le _ _
/-- data of scalars for a comparison of lists -/
theorem vals_dp {K : PySem.W.Frag} {H : Hp} {vs : List V} : (∀ v ∈ vs, ∃ k b, ValOf k b v) → ∃ ds : List PyData, DpAll K H vs ds ∧ ds.length = vs.length ∧ PyData.canLayAll0 ds = true ∧ PyData.depthAll ds ≤ 1 := by
  induction vs with
  | nil => intro _; exact ⟨[], .nil, rfl, by simp [PyData.canLayAll0], by simp [PyData.depthAll]⟩
  | cons v r ih =>
    intro h
    obtain ⟨ds, h1, h2, h3, h4⟩ := ih fun x hx => h x (List.mem_cons_of_mem _ hx)
    obtain ⟨k, b, hv⟩ := h v List.mem_cons_self
    rcases hv with ⟨_, rfl⟩ | ⟨_, i, rfl, _⟩ | ⟨_, z, rfl, _, hz⟩
    · exact ⟨.none :: ds, .cons .non h1, by simp [h2], by simp [PyData.canLayAll0, PyData.canLay0, h3], by simp only [PyData.depthAll, PyData.depth]; omega⟩
    · exact ⟨.int i :: ds, .cons (.int i) h1, by simp [h2], by simp [PyData.canLayAll0, PyData.canLay0, h3], by simp only [PyData.depthAll, PyData.depth]; omega⟩
    · exact ⟨.str z :: ds, .cons (.str z) h1, by simp [h2], by simp [PyData.canLayAll0, PyData.canLay0, h3, strOk_of hz], by simp only [PyData.depthAll, PyData.depth]; omega⟩
/-- keys != [] -/
theorem ne_empty {K : PySem.W.Frag} {H : Hp} {Q : VK} {a e : Addr} {vs : List V} (ha : H a = some (.lst vs)) (he : H e = some (.lst [])) (h : ∀ v ∈ vs, ∃ k b, ValOf k b v) (q : Q (.bl (!vs.isEmpty)) H) : rNeD K (.ref a) (.ref e) H Q := by
  obtain ⟨ds, h1, h2, h3, h4⟩ := vals_dp (K := K) (H := H) h
  refine ⟨.list ds, .list [], .lst (SqL.of ha) h1, .lst (SqL.of he) .nil, ?_, rfl, ?_⟩
  · simp only [SeqAt.shaped, PyData.canLay0, h3, Bool.true_and, PyData.depth]
    exact decide_eq_true (by omega)
  · have e1 : PyData.eqv (.list ds) (.list []) = vs.isEmpty := by
      cases ds with
      | nil => cases vs with
        | nil => rfl
        | cons v r => cases h2
      | cons d r => cases vs with
        | nil => cases h2
        | cons v s => rfl
    rw [e1]; exact q
/-- pairs made of a row, one by one -/
def GivenAt (H : Hp) (gs : List V) (Ms : List (List Key)) : Prop := gs.length = Ms.length ∧ ∀ (j : Nat) (v : V) (M : List Key), gs[j]? = some v → Ms[j]? = some M → ∃ p, v = .ref p ∧ H p = some (.tup (M.map kV))
theorem GivenAt.mono {H H' : Hp} {gs : List V} {Ms : List (List Key)} (h : GivenAt H gs Ms) (k : KeepT H H') : GivenAt H' gs Ms := ⟨h.1, fun j v M h1 h2 => by
  obtain ⟨p, e, g⟩ := h.2 j v M h1 h2
  exact ⟨p, e, k _ _ g⟩⟩
theorem GivenAt.snoc {H : Hp} {gs : List V} {Ms : List (List Key)} {p : Addr} {M : List Key} (h : GivenAt H gs Ms) (g : H p = some (.tup (M.map kV))) : GivenAt H (gs ++ [.ref p]) (Ms ++ [M]) := by
  refine ⟨by rw [List.length_append, List.length_append, h.1]; rfl, fun j v M' h1 h2 => ?_⟩
  by_cases hj : j < gs.length
  · rw [List.getElem?_append_left hj] at h1
    rw [List.getElem?_append_left (by rw [← h.1]; exact hj)] at h2
    exact h.2 j v M' h1 h2
  · have e : j = gs.length := by
      have := (List.getElem?_eq_some_iff.mp h1).1
      rw [List.length_append, List.length_singleton] at this
      omega
    subst e
    rw [List.getElem?_append_right (Nat.le_refl _), Nat.sub_self] at h1
    rw [List.getElem?_append_right (by rw [h.1]; exact Nat.le_refl _), h.1, Nat.sub_self] at h2
    cases h1
    cases h2
    exact ⟨p, rfl, g⟩
theorem GivenAt.get {H : Hp} {gs : List V} {Ms : List (List Key)} (h : GivenAt H gs Ms) {j : Nat} {v : V} (e : gs[j]? = some v) : ∃ M p, Ms[j]? = some M ∧ v = .ref p ∧ H p = some (.tup (M.map kV)) := by
  have hj := (List.getElem?_eq_some_iff.mp e).1
  have hjm : j < Ms.length := by rw [← h.1]; exact hj
  have em : Ms[j]? = some Ms[j] := List.getElem?_eq_getElem hjm
  obtain ⟨p, e1, e2⟩ := h.2 j v _ e em
  exact ⟨_, p, em, e1, e2⟩
/-- the pairs of the first n uniques -/
def givenT (tab : Tab) (r : List V) (n : Nat) : List (List Key) := ((tab.un.take n).filter fun n => !decide (at_ (colNs tab.cols) r n = .non)).map fun n => [Sum.inl (((colNs tab.cols).idxOf n : Nat) : Int), vKey (at_ (colNs tab.cols) r n)]
theorem givenT_all (tab : Tab) (r : List V) {n : Nat} (h : tab.un.length ≤ n) : givenT tab r n = givenM tab r := by unfold givenT givenM; rw [List.take_of_length_le h]
theorem givenT_len (tab : Tab) (r : List V) (n : Nat) : (givenT tab r n).length ≤ tab.un.length := by
  unfold givenT; rw [List.length_map]
  have a := List.length_filter_le (fun n => !decide (at_ (colNs tab.cols) r n = .non)) (tab.un.take n)
  rw [List.length_take] at a
  omega
theorem givenT_step {tab : Tab} {r : List V} {i : Nat} {n : Str} (h : tab.un[i]? = some n) : givenT tab r (i + 1) = if at_ (colNs tab.cols) r n = .non then givenT tab r i else givenT tab r i ++ [[Sum.inl (((colNs tab.cols).idxOf n : Nat) : Int), vKey (at_ (colNs tab.cols) r n)]] := by
  unfold givenT
  rw [List.take_add_one, h, List.filter_append, List.map_append]
  by_cases e : at_ (colNs tab.cols) r n = .non
  · rw [if_pos e]; simp [e]
  · rw [if_neg e]; simp [e]
theorem range_step {n i : Nat} (P : Nat → Bool) (f : Nat → V) : ((List.range (i + 1)).filter P).map f = if P i = true then ((List.range i).filter P).map f ++ [f i] else ((List.range i).filter P).map f := by
  rw [List.range_succ, List.filter_append, List.map_append]
  cases h : P i <;> simp [h]
def stKs (st : List TS) (n : Str) : List Key := match st.find? (fun p => decide (p.n = n)) with | some p => roN p.rs | none => []
theorem st_find {st : List TS} (nm : (stN st).Nodup) {p : TS} (hp : p ∈ st) : st.find? (fun q => decide (q.n = p.n)) = some p := by
  cases e : st.find? (fun q => decide (q.n = p.n)) with
  | none => have := List.find?_eq_none.mp e p hp; simp at this
  | some q =>
    have h1 := List.mem_of_find?_eq_some e
    have h2 : q.n = p.n := by simpa using List.find?_some e
    rw [st_one nm h1 hp h2]
theorem sch_find {s : Sch} (nm : (schN s).Nodup) {p : Ads × Tab} (hp : p ∈ s) : s.find? (fun q => decide (q.2.n = p.2.n)) = some p := by
  cases e : s.find? (fun q => decide (q.2.n = p.2.n)) with
  | none => have := List.find?_eq_none.mp e p hp; simp at this
  | some q =>
    have h1 := List.mem_of_find?_eq_some e
    have h2 : q.2.n = p.2.n := by simpa using List.find?_some e
    rw [sch_one nm h1 hp h2]
theorem stKs_eq {st : List TS} (nm : (stN st).Nodup) {p : TS} (hp : p ∈ st) : stKs st p.n = roN p.rs := by unfold stKs; rw [st_find nm hp]
/-- is a value a key of the table -/
theorem key_in {rs : List Ro} {k : Str} {b : Bool} {v : V} (h : ValOf k b v) (n : v ≠ .non) : (valV (roK rs) (vKey v)).isSome = ((roN rs).any fun q => decide (kV q = v)) := by
  rw [Bool.eq_iff_iff, valV_isSome, roK_keys, List.any_eq_true]
  constructor
  · intro hm
    exact ⟨_, hm, decide_eq_true (kV_vKey h n)⟩
  · rintro ⟨q, hq, e⟩
    have e := of_decide_eq_true e
    have : vKey v = q := by rw [← e]; cases q <;> rfl
    rw [this]; exact hq
/-- a schema and a state of it -/
structure DB (H : Hp) (S : Addr) (s : Sch) (T : Addr) (st : List TS) : Prop where
  sk : H S = some (.dK (schK s))
  ds : ∀ p ∈ s, DescAt H p.1 p.2
  nm : (schN s).Nodup
  ok : ∀ p ∈ s, TabOk (frOf s) p.2
  l6 : s.length ≤ 6
  sa : StAt H T st
  fit : ∀ p ∈ s, ∃ q ∈ st, q.n = p.2.n ∧ TabFit p.2.cols q.rs
theorem DB.mono {H H' : Hp} {S : Addr} {s : Sch} {T : Addr} {st : List TS} (h : DB H S s T st) (e : Same H H') : DB H' S s T st := ⟨e _ _ h.sk, fun p hp => (h.ds p hp).mono e, h.nm, h.ok, h.l6, h.sa.mono e, h.fit⟩
theorem DB.ref {H : Hp} {S : Addr} {s : Sch} {T : Addr} {st : List TS} (h : DB H S s T st) {p : Ads × Tab} (hp : p ∈ s) : ∀ r ∈ p.2.rf, ∃ q ∈ st, q.n = r.2 := fun r hr => by
  obtain ⟨col, _, _, _, f, hf, ef, _⟩ := (h.ok p hp).rc r hr
  obtain ⟨p', hp', rfl⟩ := List.mem_map.mp hf
  obtain ⟨q, hq, e, _⟩ := h.fit p' hp'
  exact ⟨q, hq, e.trans ef⟩
theorem DB.key {H : Hp} {S : Addr} {s : Sch} {T : Addr} {st : List TS} (h : DB H S s T st) {p : Ads × Tab} (hp : p ∈ s) {rs : List Ro} (f : TabFit p.2.cols rs) : OneKind (roN rs) :=
  one_kind (List.getElem?_eq_getElem (h.ok p hp).l0) f.f
theorem DB.rest {cols : List Col} {rs : List Ro} (l5 : cols.length ≤ 5) (f : TabFit cols rs) : ∀ r ∈ rs, r.vs.length ≤ 50 := fun r hr => by
  have := (f.f r hr).r.1
  omega
def faultN (s : Sch) (st : List TS) (n : Str) : Option (Str × Str × V) :=
  match s.find? (fun p => decide (p.2.n = n)), st.find? (fun q => decide (q.n = n)) with
  | some p, some q => (faultT (stKs st) p.2 (rowsM q.rs)).map fun x => (x.1, n, x.2)
  | _, _ => none
def faultK (s : Sch) (st : List TS) : Key → Option (Str × Str × V)
  | .inr n => faultN s st n
  | .inl _ => none
def faultM (s : Sch) (st : List TS) : Option (Str × Str × V) := (sortK ((schN s).map Sum.inr)).findSome? (faultK s st)
def FaultAt (H : Hp) (v : V) : Option (Str × Str × V) → Prop
  | none => v = .non
  | some (c, n, k) => ∃ p, v = .ref p ∧ H p = some (.tup [.str c, .str n, k]) ∧ isScal k = true
theorem faultN_eq {s : Sch} {st : List TS} (nm : (schN s).Nodup) (nt : (stN st).Nodup) {p : Ads × Tab} {q : TS} (hp : p ∈ s) (hq : q ∈ st) (e : q.n = p.2.n) : faultN s st p.2.n = (faultT (stKs st) p.2 (rowsM q.rs)).map fun x => (x.1, p.2.n, x.2) := by
  unfold faultN
  rw [sch_find nm hp, ← e, st_find nt hq]
/-- leads_nowhere -/
def spLeadsNo : Sp := fun vs H Q _ => ∃ (S : Addr) (s : Sch) (T : Addr) (st : List TS) (p : Ads × Tab) (ra N RF : Addr) (r : List V) (rws : List (List V)), vs = [.ref ra, .ref N, .ref RF, .ref T] ∧ DB H S s T st ∧ p ∈ s ∧ H ra = some (.tup r) ∧ r ∈ rws ∧ RowsFit p.2.cols rws ∧
  H N = some (.lst ((colNs p.2.cols).map V.str)) ∧ RF = p.1.r ∧ Q (.bl (badR (stKs st) p.2 r)) H
def spLost : Sp := fun vs H Q _ => ∃ (S : Addr) (s : Sch) (T : Addr) (st : List TS) (p : Ads × Tab) (L : Addr) (rws : List (List V)), vs = [.ref p.1.d, .ref L, .ref T] ∧ DB H S s T st ∧ p ∈ s ∧ RowsAt H L rws ∧ RowsFit p.2.cols rws ∧ ∀ N H', H' N = some (.lst (keysR (stKs st) p.2 rws)) → Same H H' → Q (.ref N) H'
def spTableFault : Sp := fun vs H Q _ => ∃ (S : Addr) (s : Sch) (T : Addr) (st : List TS) (p : Ads × Tab), vs = [.ref S, .ref T, .str p.2.n] ∧ DB H S s T st ∧ p ∈ s ∧ ∀ v H', FaultAt H' v (faultN s st p.2.n) → Same H H' → Q v H'
def spFault : Sp := fun vs H Q _ => ∃ (S : Addr) (s : Sch) (T : Addr) (st : List TS), vs = [.ref S, .ref T] ∧ DB H S s T st ∧ ∀ v H', FaultAt H' v (faultM s st) → Same H H' → Q v H'
theorem keys_scal {cols : List Col} {rws : List (List V)} (F : RowsFit cols rws) (l0 : 1 ≤ cols.length) {r : List V} (hr : r ∈ rws) : ∃ k b, ValOf k b (headV r) := by
  obtain ⟨v, vs, rfl⟩ := F.ne l0 hr
  exact ⟨_, _, F.v _ hr 0 cols[0] v (List.getElem?_eq_getElem l0) rfl⟩
theorem first_filter {α : Type} {P : α → Bool} : ∀ {xs : List α} {i : Nat} {x : α}, xs[i]? = some x → P x = true → (∀ y ∈ xs.take i, P y = false) → ∃ rest, xs.filter P = x :: rest
  | [], i, x, h, _, _ => by simp at h
  | y :: r, 0, x, h, hp, _ => by
    simp at h
    subst h
    exact ⟨r.filter P, by rw [List.filter_cons, if_pos hp]⟩
  | y :: r, i + 1, x, h, hp, hn => by
    have hy : P y = false := hn y (by rw [List.take_succ_cons]; exact List.mem_cons_self)
    obtain ⟨rest, e⟩ := first_filter (xs := r) (i := i) (by simpa using h) hp fun z hz => hn z (by rw [List.take_succ_cons]; exact List.mem_cons_of_mem _ hz)
    exact ⟨rest, by rw [List.filter_cons, if_neg (by rw [hy]; decide), e]⟩
theorem none_filter {α : Type} {P : α → Bool} {xs : List α} (h : ∀ y ∈ xs, P y = false) : xs.filter P = [] := List.filter_eq_nil_iff.mpr fun y hy => by rw [h y hy]; decide
theorem take_step {α : Type} {P : α → Bool} {xs : List α} {i : Nat} {x : α} (h : xs[i]? = some x) (a : ∀ y ∈ xs.take i, P y = false) (b : P x = false) : ∀ y ∈ xs.take (i + 1), P y = false := fun y hy => by
  rw [List.take_add_one, h] at hy
  rcases List.mem_append.mp hy with hy | hy
  · exact a y hy
  · have : y = x := by simpa using hy
    rw [this]; exact b
theorem findSome_step {α β : Type} {f : α → Option β} {xs : List α} {i : Nat} {x : α} (h : xs[i]? = some x) (a : (xs.take i).findSome? f = none) (b : f x = none) : (xs.take (i + 1)).findSome? f = none := by
  rw [List.take_add_one, h, List.findSome?_append, a]
  simp [b]
theorem findSome_hit {α β : Type} {f : α → Option β} {xs : List α} {i : Nat} {x : α} {y : β} (h : xs[i]? = some x) (a : (xs.take i).findSome? f = none) (b : f x = some y) : xs.findSome? f = some y := by
  have e : xs = xs.take (i + 1) ++ xs.drop (i + 1) := (List.take_append_drop (i + 1) xs).symm
  rw [e, List.findSome?_append, List.take_add_one, h, List.findSome?_append, a]
  simp [b]
def spLawFault : Sp := spFault
def spBreaksC : Sp := fun vs H Q _ => ∃ (a : Ads) (tab : Tab) (ra : Addr) (r : List V) (rws : List (List V)) (fr : List (Str × List Col)), vs = [.ref a.d, .ref ra] ∧ DescAt H a tab ∧ TabOk fr tab ∧ H ra = some (.tup r) ∧ r ∈ rws ∧ RowsFit tab.cols rws ∧ ∀ H', Same H H' → Q (.bl (badC tab r)) H'
def spBreaksU : Sp := fun vs H Q _ => ∃ (a : Ads) (tab : Tab) (ra E : Addr) (r : List V) (ews rws : List (List V)) (fr : List (Str × List Col)), vs = [.ref a.d, .ref E, .ref ra] ∧ DescAt H a tab ∧ TabOk fr tab ∧ H ra = some (.tup r) ∧ r ∈ rws ∧ (∀ x ∈ ews, x ∈ rws) ∧ RowsFit tab.cols rws ∧ RowsAt H E ews ∧ ∀ H', Same H H' → Q (.bl (badU tab ews r)) H'
def spBreaksR : Sp := fun vs H Q _ => ∃ (S : Addr) (s : Sch) (T : Addr) (st : List TS) (p : Ads × Tab) (ra : Addr) (r : List V) (rws : List (List V)), vs = [.ref p.1.d, .ref T, .ref ra] ∧ DB H S s T st ∧ p ∈ s ∧ H ra = some (.tup r) ∧ r ∈ rws ∧ RowsFit p.2.cols rws ∧ ∀ H', Same H H' → Q (.bl (badR (stKs st) p.2 r)) H'
/-- the four codes, each with the keys of the rows that it is true for -/
def codesM (ks : Str → List Key) (tab : Tab) (rws : List (List V)) : List (Str × List V) := [("full", keysF rws), ("check", keysC tab rws), ("unique", keysU tab rws), ("reference", keysR ks tab rws)]
def hitM (c : Str × List V) : Option (Str × V) := match c.2 with | k :: _ => some (c.1, k) | [] => none
theorem faultT_codes (ks : Str → List Key) (tab : Tab) (rws : List (List V)) : faultT ks tab rws = (codesM ks tab rws).findSome? hitM := by
  unfold faultT codesM hitM
  simp only [List.findSome?_cons, List.findSome?_nil]
  cases keysF rws with
  | cons k r => rfl
  | nil =>
    cases keysC tab rws with
    | cons k r => rfl
    | nil =>
      cases keysU tab rws with
      | cons k r => rfl
      | nil => cases keysR ks tab rws <;> rfl
theorem codes_val {ks : Str → List Key} {cols : List Col} {tab : Tab} {rws : List (List V)} (F : RowsFit cols rws) (l0 : 1 ≤ cols.length) : ∀ c ∈ codesM ks tab rws, ∀ v ∈ c.2, ∃ k b, ValOf k b v := by
  intro c hc v hv
  unfold codesM at hc
  simp only [List.mem_cons, List.not_mem_nil, or_false] at hc
  rcases hc with rfl | rfl | rfl | rfl
  · obtain ⟨r, h1, rfl⟩ := List.mem_map.mp hv
    exact keys_scal F l0 (List.mem_of_mem_drop h1)
  · obtain ⟨r, h1, rfl⟩ := List.mem_map.mp hv
    exact keys_scal F l0 (List.mem_filter.mp h1).1
  · obtain ⟨r, h1, rfl⟩ := List.mem_map.mp hv
    have := List.mem_range.mp (List.mem_filter.mp h1).1
    have e : rws.getD r [] = rws[r] := by rw [List.getD_eq_getElem?_getD, List.getElem?_eq_getElem this]; rfl
    show ∃ k b, ValOf k b (headV (rws.getD r []))
    rw [e]
    exact keys_scal F l0 (List.getElem_mem this)
  · obtain ⟨r, h1, rfl⟩ := List.mem_map.mp hv
    exact keys_scal F l0 (List.mem_filter.mp h1).1
theorem at_vals {cols : List Col} {rws : List (List V)} (F : RowsFit cols rws) {n : Str} (hn : n ∈ colNs cols) : ∃ k b, ∀ r ∈ rws, ValOf k b (at_ (colNs cols) r n) := by
  obtain ⟨j, e1, e2, _, _⟩ := idx_str hn
  have hj : j < cols.length := by unfold colNs at e2; rwa [List.length_map] at e2
  refine ⟨cols[j].k, cols[j].b, fun r hr => ?_⟩
  have hl := F.n r hr
  have er : r[j]? = some r[j] := List.getElem?_eq_getElem (by omega)
  have ea : at_ (colNs cols) r n = r[j] := by unfold at_; rw [← e1]; exact getD_some er
  rw [ea]
  exact F.v r hr j cols[j] _ (List.getElem?_eq_getElem hj) er
theorem val_scal {k : Str} {b : Bool} {v w : V} (h : ValOf k b v) (g : ValOf k b w) : scal v w = true := by
  rcases h with ⟨_, rfl⟩ | ⟨k1, i, rfl, _⟩ | ⟨k1, z, rfl, _⟩ <;> rcases g with ⟨_, rfl⟩ | ⟨k2, j, rfl, _⟩ | ⟨k2, y, rfl, _⟩ <;> first | rfl | exact absurd k1 k2 | exact absurd k2 k1
/-! ## states drawn -/
def spRowsDraw : Sp := fun vs H Q _ => ∃ (t c L : Addr) (cs : List Int) (cols : List Col) (most : Int), vs = [.ref t, .ref L, .int most] ∧ TapeAt H t c cs ∧ ColsAt H L cols ∧ 0 < cols.length ∧ cols.length ≤ 100 ∧ 0 ≤ most ∧ most ≤ 20 ∧
  ∀ d rs H', TAt H' d rs → (∀ r ∈ rs, RowFit cols r) → (rs.length : Int) ≤ most → H d = none → TapeAt H' t c cs → SameX t H H' → Q (.ref d) H'
/-- tables with rows, for each table of the schema one -/
structure StFit (s : Sch) (st : List TS) (most : Nat) : Prop where
  f : ∀ p ∈ s, ∃ q ∈ st, q.n = p.2.n ∧ (∀ r ∈ q.rs, RowFit p.2.cols r)
  l : ∀ q ∈ st, q.rs.length ≤ most
  n : ∀ q ∈ st, q.n ∈ schN s
  e : st.length = s.length
def stD (T : Addr) (st : List TS) : List Addr := T :: st.map fun q => q.d
def spState : Sp := fun vs H Q _ => ∃ (t c S : Addr) (cs : List Int) (s : Sch) (most : Int), vs = [.ref t, .ref S, .int most] ∧ TapeAt H t c cs ∧ SchAt H S s t c ∧ (∀ p ∈ s, TabOk (frOf s) p.2) ∧ s.length ≤ 6 ∧ 0 ≤ most ∧ most ≤ 20 ∧
  ∀ T st H', StAt H' T st → StFit s st most.toNat → (stD T st).Nodup → (∀ a ∈ stD T st, H a = none) → TapeAt H' t c cs → SameX t H H' → Q (.ref T) H'
theorem ValOf.key {k : Str} {v : V} (h : ValOf k false v) : kV (vKey v) = v := kV_vKey h (by
  rcases h with ⟨e, _⟩ | ⟨_, i, rfl, _⟩ | ⟨_, z, rfl, _⟩
  · cases e
  · intro z; cases z
  · intro z; cases z)
theorem RowFit.mk' {cols : List Col} {c : Col} {v : V} {vs : List V} {a : Addr} (hc : cols[0]? = some c) (h : ValOf c.k false v) (r : RestOf cols vs) : RowFit cols ⟨vKey v, a, vs⟩ := ⟨fun c' hc' => by
  rw [hc] at hc'
  cases hc'
  show ValOf c.k false (kV (vKey v))
  rw [h.key]
  exact h, r⟩
theorem st_new {st : List TS} {x : TS} (h : x.n ∉ stN st) : putK (stK st) (Sum.inr x.n : Key) (.ref x.d) = stK (st ++ [x]) := by
  rw [putK_fresh]
  · unfold stK; rw [List.map_append]; rfl
  · rw [st_keys]
    intro z
    obtain ⟨y, h1, h2⟩ := List.mem_map.mp z
    cases h2
    exact h h1
/-- _law_fill -/
def spFill : Sp := fun vs H Q _ => ∃ (t c S T : Addr) (cs : List Int) (s : Sch) (st : List TS), vs = [.ref t, .ref S, .ref T] ∧ TapeAt H t c cs ∧ SchAt H S s t c ∧ (∀ p ∈ s, TabOk (frOf s) p.2) ∧ 1 ≤ s.length ∧ s.length ≤ 6 ∧ StAt H T st ∧ StFit s st 6 ∧ (t :: stD T st).Nodup ∧
  ∀ st' H', StAt H' T st' → StFit s st' 80 → stD T st' = stD T st → TapeAt H' t c cs → SameE (t :: stD T st) H H' → Q .non H'
theorem ks_len {x : Str} (h : x.length ≤ 10) (h2 : ∀ c ∈ tl x, c = 45 ∨ (48 ≤ c ∧ c ≤ 57)) : ((("k" : Str) ++ x)).length ≤ 30 ∧ ∀ c ∈ tl (("k" : Str) ++ x), chOk c := by
  have e : tl ("k" : Str) = [107] := by decide +kernel
  refine ⟨?_, fun c hc => ?_⟩
  · rw [len_app, len_tl, e]; show 1 + _ ≤ 30; omega
  · rw [tl_append, e] at hc
    rcases List.mem_cons.mp hc with rfl | hc
    · decide
    · exact digit_ok (h2 c hc)
theorem natSm {x : Int} (h : 0 ≤ x) (h2 : x ≤ 1000) : x.natAbs < 2 ^ 9000 := by
  have h1 : x.natAbs ≤ 1000 := by omega
  exact Nat.lt_of_le_of_lt h1 (by decide +kernel)
theorem SchAt.other {H : Hp} {S M t c : Addr} {s : Sch} {kvs : List (Key × V)} {o : HO} (A : SchAt H S s t c) (hM : H M = some (.dK kvs)) (n1 : S ≠ M) (n2 : ∀ p ∈ s, p.1.d ≠ M) : SchAt (upd H M o) S s t c :=
  ⟨by rw [upd_ne n1]; exact A.sk, fun p hp => (A.ds p hp).lock hM (n2 p hp), A.nm, A.dn, A.ln⟩
/-- a row put into the table n -/
def putSt (st : List TS) (n : Str) (r : Ro) : List TS := st.map fun q => if q.n = n then ⟨q.n, q.d, putRo q.rs r⟩ else q
theorem putSt_map {α : Type} (f : TS → α) (st : List TS) (n : Str) (r : Ro) (h : ∀ q : TS, f ⟨q.n, q.d, putRo q.rs r⟩ = f q) : (putSt st n r).map f = st.map f := by
  unfold putSt
  rw [List.map_map]
  refine List.map_congr_left fun q _ => ?_
  show f (if q.n = n then ⟨q.n, q.d, putRo q.rs r⟩ else q) = f q
  split
  · exact h q
  · rfl
theorem putSt_K (st : List TS) (n : Str) (r : Ro) : stK (putSt st n r) = stK st := putSt_map (fun p => ((Sum.inr p.n : Key), V.ref p.d)) st n r fun _ => rfl
theorem putSt_N (st : List TS) (n : Str) (r : Ro) : stN (putSt st n r) = stN st := putSt_map (fun p => p.n) st n r fun _ => rfl
theorem putSt_D (T : Addr) (st : List TS) (n : Str) (r : Ro) : stD T (putSt st n r) = stD T st := by unfold stD; rw [putSt_map (fun p => p.d) st n r fun _ => rfl]
theorem putSt_mem {st : List TS} {n : Str} {r : Ro} {x : TS} (h : x ∈ putSt st n r) : ∃ q ∈ st, x.n = q.n ∧ x.d = q.d ∧ ((q.n = n ∧ x.rs = putRo q.rs r) ∨ (q.n ≠ n ∧ x = q)) := by
  obtain ⟨q, h1, rfl⟩ := List.mem_map.mp h
  refine ⟨q, h1, ?_⟩
  by_cases e : q.n = n
  · rw [if_pos e]; exact ⟨rfl, rfl, .inl ⟨e, rfl⟩⟩
  · rw [if_neg e]; exact ⟨rfl, rfl, .inr ⟨e, rfl⟩⟩
theorem putSt_at {st : List TS} {n : Str} {r : Ro} {q : TS} (h : q ∈ st) : (if q.n = n then (⟨q.n, q.d, putRo q.rs r⟩ : TS) else q) ∈ putSt st n r := List.mem_map.mpr ⟨q, h, rfl⟩
theorem st_d_one {T : Addr} {st : List TS} (nd : (stD T st).Nodup) {p q : TS} (hp : p ∈ st) (hq : q ∈ st) (e : p.d = q.d) : p = q := by
  have nd := (List.nodup_cons.mp nd).2
  obtain ⟨i, hi, ei⟩ := List.getElem_of_mem hp
  obtain ⟨j, hj, ej⟩ := List.getElem_of_mem hq
  have a1 : (st.map fun q => q.d)[i]? = some p.d := by rw [List.getElem?_map, List.getElem?_eq_getElem hi, ei]; rfl
  have a2 : (st.map fun q => q.d)[j]? = some p.d := by rw [List.getElem?_map, List.getElem?_eq_getElem hj, ej]; exact congrArg some e.symm
  have := nd_ix nd a1 a2
  subst this
  rw [← ei, ← ej]
theorem StAt.put {H : Hp} {T : Addr} {st : List TS} {q : TS} {r : Ro} (B : StAt H T st) (nd : (stD T st).Nodup) (hq : q ∈ st) (hr : H r.a = some (.tup r.vs)) : StAt (upd H q.d (.dK (roK (putRo q.rs r)))) T (putSt st q.n r) := by
  have dk := (B.ds q hq).dk
  have ku : KeepT H (upd H q.d (.dK (roK (putRo q.rs r)))) := KeepT.lock dk
  have nT : T ≠ q.d := fun e => (List.nodup_cons.mp nd).1 (List.mem_map.mpr ⟨q, hq, e.symm⟩)
  refine ⟨by rw [upd_ne nT, putSt_K]; exact B.sk, fun x hx => ?_, by rw [putSt_N]; exact B.nm⟩
  obtain ⟨z, hz, en, ed, h⟩ := putSt_mem hx
  have A := B.ds z hz
  rcases h with ⟨e, ers⟩ | ⟨e, rfl⟩
  · have : z = q := st_one B.nm hz hq e
    subst this
    rw [ed, ers]
    refine ⟨upd_same, fun y hy => ?_, putRo_nd A.nd r⟩
    rcases putRo_mem hy with ⟨_, ea, ev⟩ | hy
    · rw [ea, ev]; exact ku _ _ hr
    · exact ku _ _ (A.rt y hy)
  · have nd' : x.d ≠ q.d := fun e' => e (by rw [st_d_one nd hz hq e'])
    exact A.mono ku fun o h => by rw [upd_ne nd']; exact h
end Lt

set_option autoImplicit false
namespace Lt
open PySem PySem.Spec PyProof.Rows L2 TL
open C8 (pss_cut)
/-! ## errors of the program -/
/-- C(e, ..), C an own exception class with an own __init__: its context is None -/
theorem pmk_ownN {X : Cx} {CX : CXT} {x : Str} {e : Expr} {es : List Expr} {ta : TA} {p pos : Pos} {C fI : Addr} {k : Nat} {fd : FuncData} {ps : List Str} {sp : Sp} (T : OexC X.K C)
    (iC : PySem.W.findIn X.K (.ref C) "__init__" = some (some (.ref fI))) (tI : PySem.W.typeIn X.K (.ref fI) = some (.type "function"))
    (G : FnOk X.prog X.w X.K X.mg X.base CX k fI fd ps sp) (hr : Room (k + 1) X.A) (hb : Binds X.K fd ps []) (hx : Passes CX X (fun _ _ _ => False)) (hg : Gl X x) (hm : X.mg x = some (.ref C)) (ha : PA X (e :: es) ta)
    (hdb : (x == ("__debug__" : Str)) = false := by decide) (he : starEach (e :: es) X.env = (false, eval e X.env) :: starEach es X.env := by rfl) (hpl : (backTo pos (starEach es X.env)).any (·.1) = false := by rfl) :
    L2N.PMk X (.Call (.Name x p) (e :: es) [] pos) (tMkO C sp [] ta) := fun pins s σ H Q I h => by
  obtain ⟨_, _, _, _, bm, _, _, _, _, _, _, _, _, _, _, hcl, hbm⟩ := T.cls
  refine wpAny_Call_Name_kw (ld_glob I hg hm (PySem.W.callWith_K (h₀ := X.base) I.ok.mod.kin T.kC (thn (ha.run pos pins s σ H _ I h) fun us s1 w => ?_) he hpl) hdb)
  obtain ⟨vs, H1, J, rv, lv, q⟩ := w
  refine ⟨J.kIn, ?_⟩
  show wpAny _ _ (call (.ref C) us) _ _ _
  obtain ⟨hp, gs, dr, tok, os⟩ := s1
  generalize hA : hp.objs.size + 1 = A
  have le : hp.objs.size ≤ A := by omega
  have q := q A (J.hok.fresh le)
  rw [List.append_nil] at q
  have keep : ∀ b o, hp.get? b = some o → ((hp.push (PySem.W.kdv_tup us)).push (PySem.HandSPX.excO C hp.objs.size)).get? b = some o := fun _ _ g => Heap.get?_push_of_some _ (Heap.get?_push_of_some _ g)
  have there : ((hp.push (PySem.W.kdv_tup us)).push (PySem.HandSPX.excO C hp.objs.size)).get? A = some (PySem.HandSPX.excO C hp.objs.size) := by rw [← hA]; heap_get
  have J2 : Inv X pins σ (upd H1 A (exo A C none)) ⟨(hp.push (PySem.W.kdv_tup us)).push (PySem.HandSPX.excO C hp.objs.size), gs, dr, tok, os⟩ := J.laid (t' := tok) keep le (exo_ok there)
  have rv2 : Vals (V.ref A :: vs) (Value.ref A :: us) := .cons rfl rv
  have len : (Value.ref A :: us ++ []).length = ps.length := by rw [List.append_nil, ← rv2.length, G.len _ _ _ _ q]
  have bi := hb _ (Value.ref A :: us) J2.kIn len
  rw [List.append_nil] at bi
  have lus : us.length ≤ sizeLine := by rw [← Paired.length rv, sizeLine_eq]; omega
  subst hA
  refine wpAny_call (PySem.HandSPX.call_own F.excBase_ValueError (fun Y => PySem.HandSPX.refsVE_contains Y bm hbm) (J.kIn _ _ hcl) (PySem.W.looks_findIn J.kIn iC) (fun self => PySem.W.bind_fn J.kIn self tI) lus
    (codeAny_mono (G.run _ X.stack _ _ ⟨Value.ref (hp.objs.size + 1) :: us, []⟩ (Value.ref (hp.objs.size + 1) :: us) _ _ (fun _ _ _ => False) (hr.make C us []) (J2.env0.make C us []) bi rv2 q) fun r s' w => ?_))
  cases r with
  | error er => exact hx pins σ _ _ er s' J2 w
  | ok fl =>
    cases fl with
    | ret u =>
      obtain ⟨v, H2, eo, bare, un, hok, ru, rfl, d, fs, ea, ed, hd, q2⟩ := w
      obtain ⟨h2, g2, d2, t2, os'⟩ := s'
      obtain ⟨t0, G0, K0, kG, ge, hoe, na⟩ := mk_end0 (d2 := d2) (t2 := t2) J le keep un hok eo bare ea ed hd
      exact ⟨ru, _, _, _, ⟨G0, g2, d2, t2, os'⟩, _, .ref C, some d, rfl, K0, kG, ge, hoe, ⟨rfl, rfl, fun vs e => by cases e; rfl⟩, rfl, rfl, na, rfl, bare, raises_own T.exC T.tyC, q2⟩
    | next => exact w.elim
    | brk => exact w.elim
    | cont => exact w.elim
/-- what can't be reached -/
theorem ps_no {X : Cx} {st : Stmt} : PS X st (fun _ _ _ => False) := ⟨fun _ _ _ _ _ _ h => h.elim⟩
theorem pss_no {X : Cx} {sts : List Stmt} : PSs X sts (fun _ _ _ => False) := ⟨fun _ _ _ _ _ _ h => h.elim⟩
theorem pe_no {X : Cx} {e : Expr} : PE X e (fun _ _ _ => False) := ⟨fun _ _ _ _ _ _ h => h.elim⟩
/-- what the text says of an error class of two fields -/
structure ErrC (K : PySem.W.Frag) (mg : Str → Option Value) (x f1 f2 : Str) (C fI : Addr) : Prop where
  gC : mg x = some (.ref C)
  T : OexC K C
  iC : PySem.W.findIn K (.ref C) "__init__" = some (some (.ref fI))
  tI : PySem.W.typeIn K (.ref fI) = some (.type "function")
  n1 : PySem.W.findIn K (.ref C) f1 = some none
  n2 : PySem.W.findIn K (.ref C) f2 = some none
  xf : XfC K C
  te : PySem.W.exmOne K (.ref C) (.ref C) = some true
/-- __init__(self, a, b): self.f1 = a; self.f2 = b -/
def spInit2 (K : PySem.W.Frag) (C : Addr) (f1 f2 : Str) : Sp := fun vs H Q _ => ∃ (a : Addr) (u v : V), vs = [.ref a, u, v] ∧ OexC K C ∧ PySem.W.findIn K (.ref C) f1 = some none ∧ PySem.W.findIn K (.ref C) f2 = some none ∧ H a = some (exo a C none) ∧
  ∀ d, H d = none → d ≠ a → Q .non (upd (upd (upd H d (exd d [(f1, u)])) a (exo a C (some d))) d (exd d [(f2, v), (f1, u)]))
/-- C(u, v) raised: its fields stand in a dict of its own -/
theorem raise2 {K : PySem.W.Frag} {mg : Str → Option Value} {x f1 f2 : Str} {C fI : Addr} (c : ErrC K mg x f1 f2 C fI) {H : Hp} {Q : XK} {u v : V} (q : ∀ d, H d = none → Q (.ref C) (some d) (upd H d (.xd [(f2, v), (f1, u)]))) :
    ∀ a, H a = none → spInit2 K C f1 f2 (.ref a :: ([u, v] ++ [])) (upd H a (exo a C none)) (fun w H2 => w = .non ∧ ∃ (d : Addr) (fs : List (Str × V)), H2 a = some (exo a C (some d)) ∧ H2 d = some (exd d fs) ∧ H d = none ∧ Q (.ref C) (some d) (upd (del H2 a) d (.xd fs))) (fun _ _ _ => False) := fun a ha => by
  refine ⟨a, u, v, rfl, c.T, c.n1, c.n2, upd_same, fun d hd hda => ⟨rfl, d, _, ?_, upd_same, ?_, ?_⟩⟩
  · rw [upd_ne hda.symm]; exact upd_same
  · rw [upd_ne hda] at hd; exact hd
  · have hd' : H d = none := by rw [upd_ne hda] at hd; exact hd
    have e : upd (del (upd (upd (upd (upd H a (exo a C none)) d (exd d [(f1, u)])) a (exo a C (some d))) d (exd d [(f2, v), (f1, u)])) a) d (.xd [(f2, v), (f1, u)]) = upd H d (.xd [(f2, v), (f1, u)]) := by
      funext b
      by_cases h1 : b = d
      · subst h1; rw [upd_same, upd_same]
      · rw [upd_ne h1, upd_ne h1]
        by_cases h2 : b = a
        · subst h2; rw [del_same, ha]
        · rw [del_ne h2, upd_ne h1, upd_ne h2, upd_ne h1, upd_ne h2]
    rw [e]
    exact q d hd'
def clsSt : Stmt → Nat → Stmt
  | .ClassDef (body := b) .., j => b.getD j (.Pass ⟨0, 0, 0, 0⟩)
  | _, _ => .Pass ⟨0, 0, 0, 0⟩
structure ErrK (P : Program) (w : World) (K : PySem.W.Frag) (mg : Str → Option Value) (base : Heap) (x f1 f2 : Str) (C fI : Addr) (fdI : FuncData) : Prop where
  c : ErrC K mg x f1 f2 C fI
  G : FnOk P w K mg base CX0 1 fI fdI ["self", f1, f2] (spInit2 K C f1 f2)
  b : Binds K fdI ["self", f1, f2] []
section
variable {P : Program} {w : World} {K : PySem.W.Frag} {mg : Str → Option Value} {base : Heap}
/-- a def that may raise -/
theorem okN {x qual : Str} {st : Stmt} {f : Addr} {fd : FuncData} {N ps : List Str} {k : Nat} {sp : Sp} (F : Fun K x qual st f fd) (S : FnScope N ps (defScope st)) (len : ∀ vs H Q E, sp vs H Q E → vs.length = ps.length)
    (hbody : ∀ (cdv : Value) (A : Around) (outer : List Env) (s : Shared) (H : Hp) (vs : List V) (Q : VK) (E : XK), Room k (A.deeper (envOfC qual (defScope st) s.heap.objs.size f cdv)) → sp vs H Q E →
      ∃ t, PSs (cxOf (L2N.CX P w) P w K mg base N qual (defScope st) f cdv A outer s H E) (defBody st) t ∧ t { nx := fun _ H' => Q .non H', rt := Q } (start N vs) H) : FnOk P w K mg base (L2N.CX P w) (k + 1) f fd ps sp := by
  obtain ⟨oc, od, kV, doc, pm, an, cdv, ct, osl, rfl, lk, hcd⟩ := F.ex
  exact fn_of lk hcd S len fun A outer s H vs Q E hr h => hbody cdv A outer s H vs Q E hr h
/-- a def called where an exception is handled -/
theorem okH {x qual : Str} {st : Stmt} {f : Addr} {fd : FuncData} {N ps : List Str} {k : Nat} {sp : Sp} (F : Fun K x qual st f fd) (S : FnScope N ps (defScope st)) (len : ∀ vs H Q E, sp vs H Q E → vs.length = ps.length)
    (hbody : ∀ (cdv : Value) (A : Around) (outer : List Env) (s : Shared) (H : Hp) (vs : List V) (Q : VK) (E : XK) (p : Addr × Obj), L2H.Hot1 A p → L2H.RoomH k (A.deeper (envOfC qual (defScope st) s.heap.objs.size f cdv)) → sp vs H Q E →
      ∃ t, PSs (L2H.cxH CX0 P w K mg base N qual (defScope st) f cdv A outer s H E p) (defBody st) t ∧ t { nx := fun _ H' => Q .non H', rt := Q } (start N vs) H) : L2H.FnH P w K mg base CX0 (k + 1) f fd ps sp := by
  obtain ⟨oc, od, kV, doc, pm, an, cdv, ct, osl, rfl, lk, hcd⟩ := F.ex
  exact L2H.fn_ofH lk hcd S len fun A outer s H vs Q E p hot hr h => hbody cdv A outer s H vs Q E p hot hr h
/-- a walked def that may raise -/
structure CalX (P : Program) (w : World) (K : PySem.W.Frag) (mg : Str → Option Value) (base : Heap) (n : Nat) (x : Str) (ps : List Str) (sp : Sp) (g : Addr) (gd : FuncData) : Prop where
  G : FnOk P w K mg base (L2N.CX P w) n g gd ps sp
  m : mg x = some (.ref g)
  kp : PySem.W.keepIn K (.ref g) = true
  b : Binds K gd ps []
theorem Kn.calX {n : Nat} {x : Str} {st : Stmt} {ps : List Str} {sp : Sp} {g : Addr} {gd : FuncData} (k : Kn K mg x st ps g gd) (G : FnOk P w K mg base (L2N.CX P w) n g gd ps sp) : CalX P w K mg base n x ps sp g gd := ⟨G, k.m, k.F.kp, k.b⟩
structure CalH (P : Program) (w : World) (K : PySem.W.Frag) (mg : Str → Option Value) (base : Heap) (n : Nat) (x : Str) (ps : List Str) (sp : Sp) (g : Addr) (gd : FuncData) : Prop where
  G : L2H.FnH P w K mg base CX0 n g gd ps sp
  m : mg x = some (.ref g)
  kp : PySem.W.keepIn K (.ref g) = true
  b : Binds K gd ps []
theorem Kn.calH {n : Nat} {x : Str} {st : Stmt} {ps : List Str} {sp : Sp} {g : Addr} {gd : FuncData} (k : Kn K mg x st ps g gd) (G : L2H.FnH P w K mg base CX0 n g gd ps sp) : CalH P w K mg base n x ps sp g gd := ⟨G, k.m, k.F.kp, k.b⟩
end
theorem takes0N {X : Cx} : L2N.Takes X (fun _ _ _ _ => False) := fun _ _ ⟨_, _, _, _, _, _, _, _, _, _, _, _, _, _, _, _, w⟩ => w.elim
theorem hotc {X : Cx} {a : Addr} {oe : Obj} {cls : Value} {d : Option Addr} {pn : List (Addr × Obj)} (hz : L2N.Zn cls d oe) (hf : ∃ vs, oe.data = .fields vs) : L2H.HotC (X.suite a ((a, oe) :: pn)) := by
  obtain ⟨vs, e⟩ := hf
  exact ⟨(a, oe), ⟨rfl, vs, e, hz.2.2 vs e⟩, List.mem_cons_self⟩
theorem hotp {CX : CXT} {P : Program} {w : World} {K : PySem.W.Frag} {mg : Str → Option Value} {base : Heap} {N : List Str} {qual : Str} {scope : Scope} {f : Addr} {cd : Value} {A : Around} {outer : List Env} {s : Shared} {H : Hp} {E : XK} {p : Addr × Obj} (h : L2H.Hot1 A p) :
    L2H.HotC (L2H.cxH CX P w K mg base N qual scope f cd A outer s H E p) := ⟨p, h, List.mem_cons_self⟩
theorem passN {X : Cx} {E : XK} : ∀ σ : L2.St, PassesAt CX0 X σ E := fun _ _ _ _ _ _ _ h => h.elim
theorem err_mk {K : PySem.W.Frag} {mg : Str → Option Value} {x f1 f2 : Str} {C fI N : Addr} {nm q : Str} {bs sub bm : List Value} {sn : List Str} {ab : Bool} {col : Option Bool} {dd : Option Addr} {m0 m1 m2 m3 m5 : Option Value}
    (gC : mg x = some (.ref C)) (xL : K.lookup C = some (excClassObj nm q C N bs bm true sn sub ab col dd m0 m1 m2 m3 m5 "ValueError.__new__")) (hb : PySem.HandSPX.refsVE bm = true)
    (sa : PySem.W.findIn K (.ref C) "__setattr__" = some (some (.builtin "object.__setattr__"))) (ga : PySem.W.findIn K (.ref C) "__getattribute__" = some (some (.builtin "BaseException.__getattribute__"))) (gg : PySem.W.findIn K (.ref C) "__getattr__" = some none)
    (n1 : PySem.W.findIn K (.ref C) f1 = some none) (n2 : PySem.W.findIn K (.ref C) f2 = some none) (iC : PySem.W.findIn K (.ref C) "__init__" = some (some (.ref fI))) (tI : PySem.W.typeIn K (.ref fI) = some (.type "function"))
    (kC : PySem.W.keepIn K (.ref C) = true) (eC : PySem.W.subIn K (.ref C) (.type "BaseException") = some true) (tC : PySem.W.typeIn K (.ref C) = some (.type "type")) (hC : PySem.W.hasDictIn K C = true) (sC : PySem.W.subIn K (.ref C) (.ref C) = some true) : ErrC K mg x f1 f2 C fI :=
  ⟨gC, ⟨⟨nm, q, N, bs, bm, sn, sub, ab, col, dd, m0, m1, m2, m3, m5, xL, hb⟩, sa, eC, tC, kC⟩, iC, tI, n1, n2, ⟨ga, gg, eC, hC⟩, PySem.W.exm_ref eC hC tC sC⟩
end Lt

set_option autoImplicit false
namespace Lt
open PySem L2 TL
open C8 (pss_cut)
/-! ## data compared: tuples of tuples -/
mutual
def pyOf : D → PyData
  | .s .non => .none
  | .s (.bl b) => .bool b
  | .s (.int i) => .int i
  | .s (.str x) => .str x
  | .s _ => .none
  | .t ds => .tuple (pyOfL ds)
def pyOfL : List D → List PyData
  | [] => []
  | d :: ds => pyOf d :: pyOfL ds
end
def sCl : V → Bool
  | .str x => PyData.strOk x
  | _ => true
def sNb : V → Bool
  | .non => true
  | .int _ => true
  | .str _ => true
  | _ => false
mutual
def D.cl : D → Bool
  | .s v => sCl v
  | .t ds => clL ds
def clL : List D → Bool
  | [] => true
  | d :: ds => d.cl && clL ds
end
mutual
theorem Tp.py {K : PySem.W.Frag} {H : Hp} : ∀ {d : D} {v : V}, Tp H v d → Dp K H v (pyOf d)
  | .s v, _, h => by
    cases h with
    | s hs =>
      cases v with
      | non => exact .non
      | bl b => exact .bl b
      | int i => exact .int i
      | str x => exact .str x
      | byt _ => cases hs
      | flt _ => cases hs
      | ref _ => cases hs
      | ty _ => cases hs
  | .t ds, _, h => by cases h with | t h r => exact .tup (SqT.of h) (TpL.py r)
theorem TpL.py {K : PySem.W.Frag} {H : Hp} : ∀ {ds : List D} {vs : List V}, TpL H vs ds → DpAll K H vs (pyOfL ds)
  | [], _, h => by cases h; exact .nil
  | d :: ds, _, h => by cases h with | cons h r => exact .cons (Tp.py h) (TpL.py r)
end
mutual
theorem lay_of : ∀ (d : D), d.cl = true → PyData.canLay0 (pyOf d) = true
  | .s v, h => by
    simp only [D.cl] at h
    cases v <;> first | rfl | exact h
  | .t ds, h => by simp only [pyOf, PyData.canLay0]; exact layL_of ds h
theorem layL_of : ∀ (ds : List D), clL ds = true → PyData.canLayAll0 (pyOfL ds) = true
  | [], _ => rfl
  | d :: ds, h => by
    simp only [clL, Bool.and_eq_true] at h
    simp only [pyOfL, PyData.canLayAll0, Bool.and_eq_true]
    exact ⟨lay_of d h.1, layL_of ds h.2⟩
end
mutual
theorem depth_of : ∀ (d : D), PyData.depth (pyOf d) ≤ d.dp + 1
  | .s v => by cases v <;> simp [pyOf, PyData.depth, D.dp]
  | .t ds => by
    have := depthL_of ds
    simp only [pyOf, PyData.depth, D.dp]; omega
theorem depthL_of : ∀ (ds : List D), PyData.depthAll (pyOfL ds) ≤ dpL ds + 1
  | [] => by simp [pyOfL, PyData.depthAll]
  | d :: ds => by
    have a := depth_of d
    have b := depthL_of ds
    simp only [pyOfL, PyData.depthAll, dpL]; omega
end
theorem shaped_of {d : D} (h : d.cl = true) (k : d.dp ≤ 20) : SeqAt.shaped (pyOf d) = true := by
  have := depth_of d
  unfold SeqAt.shaped
  rw [lay_of d h, Bool.true_and]
  exact decide_eq_true (by omega)
theorem shapedL_of {ds : List D} (h : clL ds = true) (k : dpL ds ≤ 20) : SeqAt.shaped (.list (pyOfL ds)) = true := by
  have := depthL_of ds
  unfold SeqAt.shaped
  simp only [PyData.canLay0, PyData.depth]
  rw [layL_of ds h, Bool.true_and]
  exact decide_eq_true (by omega)
theorem pyOfL_map : ∀ ds : List D, pyOfL ds = ds.map pyOf
  | [] => rfl
  | d :: ds => by simp only [pyOfL, List.map_cons]; rw [pyOfL_map ds]
/-! ### a condition told by its text -/
def CondOk (c : Cond) : Prop := ∀ a ∈ c, ∀ cl ∈ a, PyData.strOk cl.n = true ∧ PyData.strOk cl.op = true ∧ ClG cl
theorem clL_all {ds : List D} : clL ds = true ↔ ∀ d ∈ ds, d.cl = true := by
  induction ds with
  | nil => exact ⟨fun _ d hd => (by cases hd), fun _ => rfl⟩
  | cons d ds ih =>
    have e : clL (d :: ds) = (d.cl && clL ds) := by simp only [clL]
    rw [e, Bool.and_eq_true, List.forall_mem_cons, ih]
theorem cl_val {v : V} (h : v = .non ∨ (∃ i : Int, v = .int i) ∨ ∃ z : Str, v = .str z ∧ PyData.strOk z = true) : sCl v = true := by
  rcases h with e | ⟨i, e⟩ | ⟨z, e, hz⟩ <;> subst e <;> first | rfl | exact hz
theorem ClG.three {cl : Cl} (h : ClG cl) : cl.v = .non ∨ (∃ i : Int, cl.v = .int i) ∨ ∃ z : Str, cl.v = .str z ∧ PyData.strOk z = true := by
  rcases h with e | ⟨i, e, _⟩ | ⟨z, e, _, hz⟩
  · exact .inl e
  · exact .inr (.inl ⟨i, e⟩)
  · exact .inr (.inr ⟨z, e, strOk_of hz⟩)
theorem cond_cl {c : Cond} (h : CondOk c) : (condD c).cl = true := by
  simp only [condD, D.cl]
  refine clL_all.mpr fun d hd => ?_
  obtain ⟨a, ha, rfl⟩ := List.mem_map.mp hd
  simp only [altD, D.cl]
  refine clL_all.mpr fun d hd => ?_
  obtain ⟨cl, hcl, rfl⟩ := List.mem_map.mp hd
  obtain ⟨h1, h2, h3⟩ := h a ha cl hcl
  simp only [clD, D.cl]
  simp only [clL, D.cl, sCl, h1, h2, Bool.true_and, Bool.and_true]
  exact cl_val h3.three
/-! ### equal data -/
mutual
/-- no truth values, no things that have no data -/
def D.nb : D → Bool
  | .s v => sNb v
  | .t ds => nbL ds
def nbL : List D → Bool
  | [] => true
  | d :: ds => d.nb && nbL ds
end
theorem nb_val {v : V} (h : v = .non ∨ (∃ i : Int, v = .int i) ∨ ∃ z : Str, v = .str z ∧ PyData.strOk z = true) : sNb v = true := by
  rcases h with e | ⟨i, e⟩ | ⟨z, e, hz⟩ <;> subst e <;> rfl
theorem nbL_all {ds : List D} : nbL ds = true ↔ ∀ d ∈ ds, d.nb = true := by
  induction ds with
  | nil => exact ⟨fun _ d hd => (by cases hd), fun _ => rfl⟩
  | cons d ds ih =>
    have e : nbL (d :: ds) = (d.nb && nbL ds) := by simp only [nbL]
    rw [e, Bool.and_eq_true, List.forall_mem_cons, ih]
mutual
theorem eqv_inj : ∀ (d e : D), d.nb = true → e.nb = true → PyData.eqv (pyOf d) (pyOf e) = true → d = e
  | .s .non, .s .non, _, _, _ => rfl
  | .s .non, .s (.int _), _, _, h => by simp [pyOf, PyData.eqv] at h
  | .s .non, .s (.str _), _, _, h => by simp [pyOf, PyData.eqv] at h
  | .s (.int _), .s .non, _, _, h => by simp [pyOf, PyData.eqv] at h
  | .s (.int i), .s (.int j), _, _, h => by simp [pyOf, PyData.eqv] at h; rw [h]
  | .s (.int _), .s (.str _), _, _, h => by simp [pyOf, PyData.eqv] at h
  | .s (.str _), .s .non, _, _, h => by simp [pyOf, PyData.eqv] at h
  | .s (.str _), .s (.int _), _, _, h => by simp [pyOf, PyData.eqv] at h
  | .s (.str i), .s (.str j), _, _, h => by simp [pyOf, PyData.eqv] at h; rw [h]
  | .s .non, .t _, _, _, h => by simp [pyOf, PyData.eqv] at h
  | .s (.int _), .t _, _, _, h => by simp [pyOf, PyData.eqv] at h
  | .s (.str _), .t _, _, _, h => by simp [pyOf, PyData.eqv] at h
  | .t _, .s .non, _, _, h => by simp [pyOf, PyData.eqv] at h
  | .t _, .s (.int _), _, _, h => by simp [pyOf, PyData.eqv] at h
  | .t _, .s (.str _), _, _, h => by simp [pyOf, PyData.eqv] at h
  | .t ds, .t es, h1, h2, h => by
    simp only [pyOf, PyData.eqv] at h
    rw [eqvL_inj ds es h1 h2 h]
  | .s (.bl _), _, h, _, _ => by simp [D.nb, sNb] at h
  | .s (.byt _), _, h, _, _ => by simp [D.nb, sNb] at h
  | .s (.flt _), _, h, _, _ => by simp [D.nb, sNb] at h
  | .s (.ref _), _, h, _, _ => by simp [D.nb, sNb] at h
  | .s (.ty _), _, h, _, _ => by simp [D.nb, sNb] at h
  | _, .s (.bl _), _, h, _ => by simp [D.nb, sNb] at h
  | _, .s (.byt _), _, h, _ => by simp [D.nb, sNb] at h
  | _, .s (.flt _), _, h, _ => by simp [D.nb, sNb] at h
  | _, .s (.ref _), _, h, _ => by simp [D.nb, sNb] at h
  | _, .s (.ty _), _, h, _ => by simp [D.nb, sNb] at h
theorem eqvL_inj : ∀ (ds es : List D), nbL ds = true → nbL es = true → PyData.eqvAll (pyOfL ds) (pyOfL es) = true → ds = es
  | [], [], _, _, _ => rfl
  | [], _ :: _, _, _, h => by simp [pyOfL, PyData.eqvAll] at h
  | _ :: _, [], _, _, h => by simp [pyOfL, PyData.eqvAll] at h
  | d :: ds, e :: es, h1, h2, h => by
    simp only [nbL, Bool.and_eq_true] at h1 h2
    simp only [pyOfL, PyData.eqvAll, Bool.and_eq_true] at h
    rw [eqv_inj d e h1.1 h2.1 h.1, eqvL_inj ds es h1.2 h2.2 h.2]
end
mutual
theorem eqv_refl : ∀ (d : D), d.nb = true → PyData.eqv (pyOf d) (pyOf d) = true
  | .s .non, _ => rfl
  | .s (.int i), _ => by simp [pyOf, PyData.eqv]
  | .s (.str x), _ => by simp [pyOf, PyData.eqv]
  | .s (.bl _), h => by simp [D.nb, sNb] at h
  | .s (.byt _), h => by simp [D.nb, sNb] at h
  | .s (.flt _), h => by simp [D.nb, sNb] at h
  | .s (.ref _), h => by simp [D.nb, sNb] at h
  | .s (.ty _), h => by simp [D.nb, sNb] at h
  | .t ds, h => by simp only [pyOf, PyData.eqv]; exact eqvL_refl ds h
theorem eqvL_refl : ∀ (ds : List D), nbL ds = true → PyData.eqvAll (pyOfL ds) (pyOfL ds) = true
  | [], _ => rfl
  | d :: ds, h => by
    simp only [nbL, Bool.and_eq_true] at h
    simp only [pyOfL, PyData.eqvAll, Bool.and_eq_true]
    exact ⟨eqv_refl d h.1, eqvL_refl ds h.2⟩
end
theorem cond_nb {c : Cond} (h : CondOk c) : (condD c).nb = true := by
  simp only [condD, D.nb]
  refine nbL_all.mpr fun d hd => ?_
  obtain ⟨a, ha, rfl⟩ := List.mem_map.mp hd
  simp only [altD, D.nb]
  refine nbL_all.mpr fun d hd => ?_
  obtain ⟨cl, hcl, rfl⟩ := List.mem_map.mp hd
  simp only [clD, D.nb]
  simp only [nbL, D.nb, sNb, Bool.true_and, Bool.and_true]
  exact nb_val (h a ha cl hcl).2.2.three
theorem clD_inj {a b : Cl} (h : clD a = clD b) : a = b := by
  cases a; cases b
  simp only [clD, D.t.injEq, List.cons.injEq, D.s.injEq, V.str.injEq, and_true] at h
  obtain ⟨h1, h2, h3⟩ := h
  subst h1 h2 h3
  rfl
theorem mapD_inj {α : Type} {f : α → D} (hf : ∀ a b, f a = f b → a = b) : ∀ {xs ys : List α}, xs.map f = ys.map f → xs = ys
  | [], [], _ => rfl
  | [], _ :: _, h => by simp at h
  | _ :: _, [], h => by simp at h
  | x :: xs, y :: ys, h => by
    simp only [List.map_cons, List.cons.injEq] at h
    rw [hf x y h.1, mapD_inj hf h.2]
theorem condD_inj {a b : Cond} (h : condD a = condD b) : a = b := mapD_inj (fun x y e => mapD_inj (fun _ _ => clD_inj) (D.t.inj e)) (D.t.inj h)
theorem rfD_inj {a b : Str × Str} (h : rfD a = rfD b) : a = b := by
  cases a; cases b
  simp only [rfD, D.t.injEq, List.cons.injEq, D.s.injEq, V.str.injEq, and_true] at h
  obtain ⟨h1, h2⟩ := h
  subst h1 h2
  rfl
def memB {α : Type} [DecidableEq α] (xs : List α) (x : α) : Bool := xs.any fun y => decide (y = x)
theorem memB_iff {α : Type} [DecidableEq α] {xs : List α} {x : α} : memB xs x = true ↔ x ∈ xs := by
  unfold memB
  rw [List.any_eq_true]
  exact ⟨fun ⟨y, h1, h2⟩ => (of_decide_eq_true h2) ▸ h1, fun h => ⟨x, h, decide_eq_true rfl⟩⟩
def delFirst {α : Type} [DecidableEq α] (xs : List α) (x : α) : List α := match xs.findIdx? (fun y => decide (y = x)) with | some j => xs.eraseIdx j | none => xs
/-- is d among them -/
theorem any_eqv {α : Type} [DecidableEq α] {f : α → D} (hf : ∀ a b, f a = f b → a = b) {xs : List α} {x : α} (h : ∀ y ∈ xs, (f y).nb = true) (hx : (f x).nb = true) : ((pyOfL (xs.map f)).any fun z => PyData.eqv z (pyOf (f x))) = memB xs x := by
  rw [Bool.eq_iff_iff, List.any_eq_true, memB_iff, pyOfL_map, List.map_map]
  constructor
  · rintro ⟨z, hz, e⟩
    obtain ⟨y, hy, rfl⟩ := List.mem_map.mp hz
    rw [← hf y x (eqv_inj _ _ (h y hy) hx e)]
    exact hy
  · intro hm
    exact ⟨_, List.mem_map.mpr ⟨x, hm, rfl⟩, eqv_refl _ hx⟩
/-- the place of the first one that is the same -/
theorem place_eqv {α : Type} [DecidableEq α] {f : α → D} (hf : ∀ a b, f a = f b → a = b) {xs : List α} {x : α} (h : ∀ y ∈ xs, (f y).nb = true) (hx : memB xs x = true) : ∃ j, (pyOfL (xs.map f)).findIdx? (fun z => PyData.eqv z (pyOf (f x))) = some j ∧ xs.eraseIdx j = delFirst xs x := by
  have hm := memB_iff.mp hx
  have e : (pyOfL (xs.map f)).findIdx? (fun z => PyData.eqv z (pyOf (f x))) = xs.findIdx? (fun y => decide (y = x)) := by
    rw [pyOfL_map, List.map_map, List.findIdx?_map]
    have g : ∀ {ys : List α}, (∀ y ∈ ys, (f y).nb = true) → ys.findIdx? ((fun z => PyData.eqv z (pyOf (f x))) ∘ (pyOf ∘ f)) = ys.findIdx? (fun y => decide (y = x)) := by
      intro ys
      induction ys with
      | nil => intro _; rfl
      | cons y r ih =>
        intro he
        have ey : ((fun z => PyData.eqv z (pyOf (f x))) ∘ (pyOf ∘ f)) y = decide (y = x) := by
          show PyData.eqv (pyOf (f y)) (pyOf (f x)) = _
          rw [Bool.eq_iff_iff, decide_eq_true_iff]
          exact ⟨fun z => hf _ _ (eqv_inj _ _ (he y List.mem_cons_self) (h x hm) z), fun z => by rw [z]; exact eqv_refl _ (h x hm)⟩
        rw [List.findIdx?_cons, List.findIdx?_cons, ey, ih (fun z hz => he z (List.mem_cons_of_mem _ hz))]
    exact g h
  cases ej : xs.findIdx? (fun y => decide (y = x)) with
  | none =>
    have := List.findIdx?_eq_none_iff.mp ej x hm
    simp at this
  | some j => exact ⟨j, by rw [e, ej], by unfold delFirst; rw [ej]⟩
/-- l.remove(x), data that are not of dicts, x in l -/
def rRemD (K : PySem.W.Frag) : V → List V → Hp → VK → Prop := fun x xs H Q => ∃ (l : Addr) (y : V) (d : PyData) (ds : List PyData) (zs : List V) (j : Nat), x = .ref l ∧ xs = [y] ∧ H l = some (.lst zs) ∧ DpAll K H zs ds ∧ Dp K H y d ∧
  PyData.plainAll ds = true ∧ d.plain = true ∧ d.depth ≤ 60 ∧ ds.findIdx? (fun z => PyData.eqv z d) = some j ∧ Q .non (upd H l (.lst (zs.eraseIdx j)))
section
variable {X : Cx}
open PySem.Spec PyProof.Rows in
theorem mt_removeD (hu : X.A.units + 65 < cLine) : MtM X "list.remove" (rRemD X.K) := by
  rintro pins s σ H x xs v us Q I rx rxs ⟨l, y, d, ds, zs, j, rfl, rfl, hH, ha, hy, pl, pd, dd, hj, q⟩
  cases rx
  obtain ⟨uy, rfl, ry⟩ := rxs.one
  obtain ⟨z, its, n, rv, hl, e⟩ := I.lstM hH
  obtain ⟨bs, r1⟩ := Dp.reads I d y uy hy ry
  obtain ⟨as, r2⟩ := Dp.readsAll I ds _ its ha rv
  have il : s.heap.IsList l its.toArray := ⟨_, e, rfl, n, rfl⟩
  have room : X.A.units + 1 + min (PyData.depthAll ds) d.depth < cLine := by
    have := Nat.min_le_right (PyData.depthAll ds) d.depth
    omega
  refine PySem.SeqAt.remove_list_data il (as := as) (bs := bs) r2 r1 pl pd room hj (by rw [List.size_toArray, ← hl]; exact z) ?_
  refine ⟨.non, _, I.lset (its' := its.eraseIdx j) (t' := s.toks) hH e ?_ (rv.eraseIdx j) ?_, rfl, q⟩
  · rw [List.eraseIdxIfInBounds_toArray]
  · have := List.length_eraseIdx_le zs j
    omega
end
end Lt

set_option autoImplicit false
namespace Lt
open PySem L2 TL
open C8 (pss_cut)
instance decCl : DecidableEq Cl := fun a b => decidable_of_iff (a.n = b.n ∧ a.op = b.op ∧ a.v = b.v) ⟨fun ⟨h1, h2, h3⟩ => by
  cases a; cases b
  simp only at h1 h2 h3
  rw [h1, h2, h3], fun h => by rw [h]; exact ⟨rfl, rfl, rfl⟩⟩
/-! ## tables that are well formed -/
structure TabV (t : Tab) : Prop where
  nm : nameOk t.n
  co : ColsOk [] t.cols
  l0 : 1 ≤ t.cols.length
  l8 : t.cols.length ≤ 8
  c4 : t.ch.length ≤ 4
  cc : ∀ c ∈ t.ch, c.length ≤ 4 ∧ (∀ a ∈ c, a.length ≤ 4) ∧ CondOk c
  u4 : t.un.length ≤ 4
  un : ∀ x ∈ t.un, PyData.strOk x = true
  r4 : t.rf.length ≤ 4
  rf : ∀ p ∈ t.rf, PyData.strOk p.1 = true ∧ PyData.strOk p.2 = true
theorem TabV.sm {t : Tab} (h : TabV t) : TabSm t := by
  have h1 := h.l8
  have h2 := h.c4
  have h3 := h.u4
  have h4 := h.r4
  exact ⟨by omega, by omega, fun c hc => by
    obtain ⟨a, b, _⟩ := h.cc c hc
    exact ⟨by omega, fun x hx => by have := b x hx; omega⟩, by omega, by omega⟩
theorem colN_ok {cols : List Col} (h : ColsOk [] cols) {n : Str} (hn : n ∈ colNs cols) : PyData.strOk n = true := (h.fr n hn).2.str
theorem ClOk.text {cols : List Col} (co : ColsOk [] cols) {cl : Cl} (h : ClOk cols cl) : PyData.strOk cl.n = true ∧ PyData.strOk cl.op = true ∧ ClG cl := by
  obtain ⟨h1, col, h2, h3, h4⟩ := h
  refine ⟨?_, h1, ClOk.g ⟨h1, col, h2, h3, h4⟩⟩
  rw [h3]
  exact colN_ok co (List.mem_map.mpr ⟨col, h2, rfl⟩)
theorem TabOk.v {fr : List (Str × List Col)} {t : Tab} (h : TabOk fr t) (hf : ∀ f ∈ fr, PyData.strOk f.1 = true) : TabV t := by
  have h1 := h.l5
  have h2 := h.c4
  refine ⟨h.nm, h.co, h.l0, by omega, by omega, fun c hc => ?_, h.u4, fun x hx => ?_, h.r4, fun p hp => ?_⟩
  · obtain ⟨a, b⟩ := h.cc c hc
    exact ⟨a, fun x hx => (b x hx).1, fun x hx cl hcl => ((b x hx).2 cl hcl).text h.co⟩
  · have := h.uc x hx
    unfold colNs at this
    rw [List.map_drop] at this
    exact colN_ok h.co (List.mem_of_mem_drop this)
  · obtain ⟨col, h1, h2, _, f, h3, h4, _⟩ := h.rc p hp
    refine ⟨?_, by rw [← h4]; exact hf f h3⟩
    rw [← h2]
    exact colN_ok h.co (List.mem_map.mpr ⟨col, List.mem_of_mem_drop h1, rfl⟩)
/-- a schema stands at S -/
structure ScV (H : Hp) (S : Addr) (s : Sch) : Prop where
  sk : H S = some (.dK (schK s))
  ds : ∀ p ∈ s, DescAt H p.1 p.2
  nm : (schN s).Nodup
  ok : ∀ p ∈ s, TabV p.2
  l6 : s.length ≤ 6
theorem ScV.mono {H H' : Hp} {S : Addr} {s : Sch} (h : ScV H S s) (e : Same H H') : ScV H' S s := ⟨e _ _ h.sk, fun p hp => (h.ds p hp).mono e, h.nm, h.ok, h.l6⟩
theorem SchAt.v {H : Hp} {S t c : Addr} {s : Sch} (A : SchAt H S s t c) (ok : ∀ p ∈ s, TabOk (frOf s) p.2) (l6 : s.length ≤ 6) : ScV H S s := ⟨A.sk, A.ds, A.nm, fun p hp => (ok p hp).v fun f hf => by
  obtain ⟨q, hq, rfl⟩ := List.mem_map.mp hf
  exact (ok q hq).nm.str, l6⟩
theorem ScV.in' {H : Hp} {S : Addr} {s : Sch} (h : ScV H S s) {n : Str} : DGet H S (.str n) (valV (schK s) (Sum.inr n : Key)) := DGet.k (k := (Sum.inr n : Key)) h.sk
theorem sch_some {s : Sch} {n : Str} : (valV (schK s) (Sum.inr n : Key)).isSome = decide (n ∈ schN s) := by
  rw [Bool.eq_iff_iff, valV_isSome, sch_keys, decide_eq_true_iff]
  constructor
  · intro h
    obtain ⟨x, h1, h2⟩ := List.mem_map.mp h
    cases h2
    exact h1
  · intro h
    exact List.mem_map.mpr ⟨n, h, rfl⟩
/-! ## the parts of a table that bear constraints -/
inductive Pt | c | u | r
def ptN : Pt → Str
  | .c => "checks"
  | .u => "uniques"
  | .r => "references"
def ptA (a : Ads) : Pt → Addr
  | .c => a.k
  | .u => a.u
  | .r => a.r
def ptD (t : Tab) : Pt → List D
  | .c => t.ch.map condD
  | .u => t.un.map fun x => .s (.str x)
  | .r => t.rf.map rfD
def ptL (t : Tab) : Pt → Nat
  | .c => t.ch.length
  | .u => t.un.length
  | .r => t.rf.length
theorem ptD_len (t : Tab) (p : Pt) : (ptD t p).length = ptL t p := by cases p <;> exact List.length_map _
theorem strs_tp {H : Hp} : ∀ xs : List Str, TpL H (xs.map V.str) (xs.map fun x => D.s (.str x))
  | [] => .nil
  | x :: r => .cons (.s rfl) (strs_tp r)
theorem DescAt.part {H : Hp} {a : Ads} {t : Tab} (h : DescAt H a t) (p : Pt) : DGet H a.d (.str (ptN p)) (some (.ref (ptA a p))) ∧ ∃ xs, H (ptA a p) = some (.lst xs) ∧ TpL H xs (ptD t p) := by
  cases p
  · exact ⟨h.gk, h.ch⟩
  · exact ⟨h.gu, _, h.un, strs_tp _⟩
  · exact ⟨h.gr, h.rf⟩
inductive It
  | c (x : Cond)
  | u (x : Str)
  | r (x : Str × Str)
def itP : It → Pt
  | .c _ => .c
  | .u _ => .u
  | .r _ => .r
def itD : It → D
  | .c x => condD x
  | .u x => .s (.str x)
  | .r x => rfD x
def itOk : It → Prop
  | .c x => x.length ≤ 4 ∧ (∀ a ∈ x, a.length ≤ 4) ∧ CondOk x
  | .u x => PyData.strOk x = true
  | .r x => PyData.strOk x.1 = true ∧ PyData.strOk x.2 = true
def hasIt (t : Tab) : It → Bool
  | .c x => memB t.ch x
  | .u x => memB t.un x
  | .r x => memB t.rf x
def addIt (t : Tab) : It → Tab
  | .c x => { t with ch := t.ch ++ [x] }
  | .u x => { t with un := t.un ++ [x] }
  | .r x => { t with rf := t.rf ++ [x] }
def delIt (t : Tab) : It → Tab
  | .c x => { t with ch := delFirst t.ch x }
  | .u x => { t with un := delFirst t.un x }
  | .r x => { t with rf := delFirst t.rf x }
theorem itD_nb {i : It} (h : itOk i) : (itD i).nb = true ∧ (itD i).cl = true ∧ (itD i).dp ≤ 3 := by
  cases i with
  | c x => exact ⟨cond_nb h.2.2, cond_cl h.2.2, cond_dp x⟩
  | u x => exact ⟨rfl, h, Nat.zero_le _⟩
  | r x =>
    obtain ⟨h1, h2⟩ := h
    refine ⟨rfl, ?_, (by show (rfD x).dp ≤ 3; rw [rf_dp]; decide)⟩
    show clL [.s (.str x.1), .s (.str x.2)] = true
    simp only [clL, D.cl, sCl]
    rw [h1, h2]; rfl
theorem ptD_ok {t : Tab} (v : TabV t) (p : Pt) : clL (ptD t p) = true ∧ dpL (ptD t p) ≤ 3 := by
  cases p
  · exact ⟨clL_all.mpr fun d hd => by obtain ⟨x, hx, rfl⟩ := List.mem_map.mp hd; exact (itD_nb (i := .c x) (v.cc x hx)).2.1, dpL_le fun d hd => by obtain ⟨x, hx, rfl⟩ := List.mem_map.mp hd; exact cond_dp x⟩
  · exact ⟨clL_all.mpr fun d hd => by obtain ⟨x, hx, rfl⟩ := List.mem_map.mp hd; exact v.un x hx, dpL_le fun d hd => by obtain ⟨x, hx, rfl⟩ := List.mem_map.mp hd; exact Nat.zero_le _⟩
  · exact ⟨clL_all.mpr fun d hd => by obtain ⟨x, hx, rfl⟩ := List.mem_map.mp hd; exact (itD_nb (i := .r x) (v.rf x hx)).2.1, dpL_le fun d hd => by obtain ⟨x, hx, rfl⟩ := List.mem_map.mp hd; exact (by rw [rf_dp]; decide)⟩
theorem str_injD {a b : Str} (h : D.s (.str a) = D.s (.str b)) : a = b := V.str.inj (D.s.inj h)
theorem has_any {t : Tab} (v : TabV t) {i : It} (h : itOk i) : ((pyOfL (ptD t (itP i))).any fun z => PyData.eqv z (pyOf (itD i))) = hasIt t i := by
  cases i with
  | c x => exact any_eqv (fun _ _ => condD_inj) (fun y hy => cond_nb (v.cc y hy).2.2) (cond_nb h.2.2)
  | u x => exact any_eqv (f := fun x => D.s (.str x)) (fun _ _ => str_injD) (fun y hy => rfl) rfl
  | r x => exact any_eqv (fun _ _ => rfD_inj) (fun y hy => rfl) rfl
theorem eraseIdx_map' {α β : Type} (f : α → β) : ∀ (xs : List α) (j : Nat), (xs.map f).eraseIdx j = (xs.eraseIdx j).map f
  | [], _ => rfl
  | x :: xs, 0 => rfl
  | x :: xs, j + 1 => by simp only [List.map_cons, List.eraseIdx_cons_succ, eraseIdx_map' f xs j]
theorem del_place {t : Tab} (v : TabV t) {i : It} (h : itOk i) (hi : hasIt t i = true) : ∃ j, (pyOfL (ptD t (itP i))).findIdx? (fun z => PyData.eqv z (pyOf (itD i))) = some j ∧ (ptD t (itP i)).eraseIdx j = ptD (delIt t i) (itP i) := by
  cases i with
  | c x =>
    obtain ⟨j, h1, h2⟩ := place_eqv (f := condD) (fun _ _ => condD_inj) (fun y hy => cond_nb (v.cc y hy).2.2) hi
    exact ⟨j, h1, by show (t.ch.map condD).eraseIdx _ = (delFirst t.ch x).map condD; rw [eraseIdx_map', h2]⟩
  | u x =>
    obtain ⟨j, h1, h2⟩ := place_eqv (f := fun x => D.s (.str x)) (fun _ _ => str_injD) (fun y hy => rfl) hi
    exact ⟨j, h1, by show (t.un.map fun x => D.s (.str x)).eraseIdx _ = (delFirst t.un x).map _; rw [eraseIdx_map', h2]⟩
  | r x =>
    obtain ⟨j, h1, h2⟩ := place_eqv (f := rfD) (fun _ _ => rfD_inj) (fun y hy => rfl) hi
    exact ⟨j, h1, by show (t.rf.map rfD).eraseIdx _ = (delFirst t.rf x).map rfD; rw [eraseIdx_map', h2]⟩
theorem TpL.eraseIdx {H : Hp} : ∀ {ds : List D} {vs : List V} (j : Nat), TpL H vs ds → TpL H (vs.eraseIdx j) (ds.eraseIdx j)
  | [], _, j, h => by cases h; exact .nil
  | d :: ds, _, 0, h => by cases h with | cons h r => exact r
  | d :: ds, _, j + 1, h => by cases h with | cons h r => exact .cons h (TpL.eraseIdx j r)
theorem tp_strs {H : Hp} : ∀ {xs : List Str} {vs : List V}, TpL H vs (xs.map fun x => D.s (.str x)) → vs = xs.map V.str
  | [], _, h => by cases h; rfl
  | x :: r, _, h => by
    cases h with
    | cons h q => cases h; rw [tp_strs q]; rfl
/-- a list of constraints has changed -/
theorem DescAt.setPart {H : Hp} {a : Ads} {t t' : Tab} {p : Pt} {xs : List V} (h : DescAt H a t) (nd : (adL a).Nodup) (hc : t'.cols = t.cols) (ho : ∀ q, q ≠ p → ptD t' q = ptD t q) (r : TpL H xs (ptD t' p)) : DescAt (upd H (ptA a p) (.lst xs)) a t' := by
  simp only [adL, List.nodup_cons, List.mem_cons, List.not_mem_nil, or_false, not_or] at nd
  obtain ⟨⟨n1, n2, n3⟩, ⟨n4, n5⟩, n6, _⟩ := nd
  obtain ⟨_, ys, hy, _⟩ := h.part p
  have kt : KeepT H (upd H (ptA a p) (.lst xs)) := KeepT.upd fun zs z => by rw [hy] at z; cases z
  have hd : a.d ≠ ptA a p := fun e => by have := h.dk; rw [e, hy] at this; cases this
  obtain ⟨xc, c1, c2⟩ := h.co
  have old : ∀ q, q ≠ p → ptA a q ≠ ptA a p := fun q hq => by
    cases p <;> cases q <;> first | exact absurd rfl hq | (show _ ≠ _; simp only [ptA]; first | exact n4 | exact n5 | exact n6 | exact Ne.symm n4 | exact Ne.symm n5 | exact Ne.symm n6)
  have one : ∀ q, ∃ zs, (upd H (ptA a p) (.lst xs)) (ptA a q) = some (.lst zs) ∧ TpL (upd H (ptA a p) (.lst xs)) zs (ptD t' q) := fun q => by
    by_cases e : q = p
    · subst e; exact ⟨xs, upd_same, r.mono kt⟩
    · obtain ⟨_, zs, h1, h2⟩ := h.part q
      exact ⟨zs, by rw [upd_ne (old q e)]; exact h1, by rw [ho q e]; exact h2.mono kt⟩
  have hcp : a.c ≠ ptA a p := by cases p <;> simp only [ptA] <;> assumption
  refine ⟨by rw [upd_ne hd]; exact h.dk, ⟨xc, by rw [upd_ne hcp]; exact c1, by rw [hc]; exact c2.mono kt⟩, one .c, ?_, one .r⟩
  obtain ⟨zs, h1, h2⟩ := one .u
  rw [tp_strs h2] at h1
  exact h1
theorem add_other (t : Tab) (i : It) : ∀ q, q ≠ itP i → ptD (addIt t i) q = ptD t q := fun q hq => by cases i <;> cases q <;> first | exact absurd rfl hq | rfl
theorem del_other (t : Tab) (i : It) : ∀ q, q ≠ itP i → ptD (delIt t i) q = ptD t q := fun q hq => by cases i <;> cases q <;> first | exact absurd rfl hq | rfl
theorem add_part (t : Tab) (i : It) : ptD (addIt t i) (itP i) = ptD t (itP i) ++ [itD i] := by cases i <;> simp [ptD, addIt, itP, itD]
theorem add_cols (t : Tab) (i : It) : (addIt t i).cols = t.cols ∧ (addIt t i).n = t.n := by cases i <;> exact ⟨rfl, rfl⟩
theorem del_cols (t : Tab) (i : It) : (delIt t i).cols = t.cols ∧ (delIt t i).n = t.n := by cases i <;> exact ⟨rfl, rfl⟩
theorem delFirst_sub {α : Type} [DecidableEq α] {xs : List α} {x : α} : (∀ y ∈ delFirst xs x, y ∈ xs) ∧ (delFirst xs x).length ≤ xs.length := by
  unfold delFirst
  split
  · exact ⟨fun y hy => List.mem_of_mem_eraseIdx hy, List.length_eraseIdx_le _ _⟩
  · exact ⟨fun y hy => hy, Nat.le_refl _⟩
theorem TabV.add {t : Tab} (v : TabV t) {i : It} (h : itOk i) (l : ptL t (itP i) < 4) : TabV (addIt t i) := by
  obtain ⟨h1, h2, h3, h4, h5, h6, h7, h8, h9, h10⟩ := v
  cases i with
  | c x => exact ⟨h1, h2, h3, h4, by show (t.ch ++ [x]).length ≤ 4; rw [List.length_append]; exact l, fun c hc => by
      rcases List.mem_append.mp hc with hc | hc
      · exact h6 c hc
      · rw [List.mem_singleton.mp hc]; exact h, h7, h8, h9, h10⟩
  | u x => exact ⟨h1, h2, h3, h4, h5, h6, by show (t.un ++ [x]).length ≤ 4; rw [List.length_append]; exact l, fun c hc => by
      rcases List.mem_append.mp hc with hc | hc
      · exact h8 c hc
      · rw [List.mem_singleton.mp hc]; exact h, h9, h10⟩
  | r x => exact ⟨h1, h2, h3, h4, h5, h6, h7, h8, by show (t.rf ++ [x]).length ≤ 4; rw [List.length_append]; exact l, fun c hc => by
      rcases List.mem_append.mp hc with hc | hc
      · exact h10 c hc
      · rw [List.mem_singleton.mp hc]; exact h⟩
theorem TabV.del {t : Tab} (v : TabV t) (i : It) : TabV (delIt t i) := by
  obtain ⟨h1, h2, h3, h4, h5, h6, h7, h8, h9, h10⟩ := v
  cases i with
  | c x => exact ⟨h1, h2, h3, h4, Nat.le_trans delFirst_sub.2 h5, fun c hc => h6 c (delFirst_sub.1 c hc), h7, h8, h9, h10⟩
  | u x => exact ⟨h1, h2, h3, h4, h5, h6, Nat.le_trans delFirst_sub.2 h7, fun c hc => h8 c (delFirst_sub.1 c hc), h9, h10⟩
  | r x => exact ⟨h1, h2, h3, h4, h5, h6, h7, h8, Nat.le_trans delFirst_sub.2 h9, fun c hc => h10 c (delFirst_sub.1 c hc)⟩
/-! ## steps on constraints -/
inductive LS
  | addC (t : Str) (c : Cond) | dropC (t : Str) (c : Cond)
  | addU (t n : Str) | dropU (t n : Str)
  | addR (t n o : Str) | dropR (t n o : Str)
def lsK : LS → Str
  | .addC .. => "add_check"
  | .dropC .. => "drop_check"
  | .addU .. => "add_unique"
  | .dropU .. => "drop_unique"
  | .addR .. => "add_reference"
  | .dropR .. => "drop_reference"
def lsT : LS → Str
  | .addC t _ => t
  | .dropC t _ => t
  | .addU t _ => t
  | .dropU t _ => t
  | .addR t _ _ => t
  | .dropR t _ _ => t
def lsI : LS → It
  | .addC _ c => .c c
  | .dropC _ c => .c c
  | .addU _ n => .u n
  | .dropU _ n => .u n
  | .addR _ n o => .r (n, o)
  | .dropR _ n o => .r (n, o)
def lsA : LS → Bool
  | .addC .. => true
  | .addU .. => true
  | .addR .. => true
  | _ => false
/-- what follows the kind and the table -/
def lsR : LS → List D
  | .addC _ c => [condD c]
  | .dropC _ c => [condD c]
  | .addU _ n => [.s (.str n)]
  | .dropU _ n => [.s (.str n)]
  | .addR _ n o => [.s (.str n), .s (.str o)]
  | .dropR _ n o => [.s (.str n), .s (.str o)]
def lsD (x : LS) : D := .t (.s (.str (lsK x)) :: .s (.str (lsT x)) :: lsR x)
def lsOk (x : LS) : Prop := itOk (lsI x) ∧ PyData.strOk (lsT x) = true
def tabOf (ts : List Tab) (n : Str) : Option Tab := ts.find? fun t => decide (t.n = n)
def keyN (t : Tab) : Str := (colNs t.cols).headD ""
def keyK (t : Tab) : Str := (t.cols.map (·.k)).headD ""
def fullM (ts : List Tab) (t : Tab) (p : Pt) : Str := if refdM ts t.n = true then "referenced" else if 4 ≤ ptL t p then "limit" else ""
def dropM (ts : List Tab) (t : Tab) (i : It) : Str := if hasIt t i = true then (if refdM ts t.n = true then "referenced" else "") else "missing"
def codeT (ts : List Tab) (x : Tab) : LS → Str
  | .addC _ c => if fitsM x.cols c = true then fullM ts x .c else "condition"
  | .addU _ n => if n ∈ colNs x.cols then (if n = keyN x then "key" else if memB x.un n = true then "taken" else fullM ts x .u) else "missing"
  | .addR t n o => if n ∈ colNs x.cols then (match tabOf ts o with
      | none => "missing"
      | some y => if n = keyN x then "key" else if t = o then "columns" else if kindAt x.cols n ≠ keyK y then "kind" else if memB x.rf (n, o) = true then "taken" else fullM ts x .r) else "missing"
  | .dropC _ c => dropM ts x (.c c)
  | .dropU _ n => dropM ts x (.u n)
  | .dropR _ n o => dropM ts x (.r (n, o))
def codeL (ts : List Tab) (l : LS) : Str := match tabOf ts (lsT l) with
  | none => "missing"
  | some x => codeT ts x l
def newT (x : Tab) (l : LS) : Tab := if lsA l = true then addIt x (lsI l) else delIt x (lsI l)
def targL (ts : List Tab) (l : LS) : List Tab := ts.map fun x => if x.n = lsT l then newT x l else x
theorem tabOf_in {s : Sch} (nm : (schN s).Nodup) {p : Ads × Tab} (hp : p ∈ s) : tabOf (s.map (·.2)) p.2.n = some p.2 := by
  unfold tabOf
  rw [List.find?_map]
  have e : ((fun t : Tab => decide (t.n = p.2.n)) ∘ fun x : Ads × Tab => x.2) = fun q : Ads × Tab => decide (q.2.n = p.2.n) := rfl
  rw [e, sch_find nm hp]
  rfl
theorem tabOf_out {s : Sch} {n : Str} (h : n ∉ schN s) : tabOf (s.map (·.2)) n = none := by
  unfold tabOf
  rw [List.find?_eq_none]
  intro t ht
  obtain ⟨p, hp, rfl⟩ := List.mem_map.mp ht
  simp only [decide_eq_true_eq]
  exact fun e => h (List.mem_map.mpr ⟨p, hp, e⟩)
def tbs (s : Sch) : List Tab := s.map (·.2)
def spLacks : Sp := fun vs H Q _ => ∃ (S : Addr) (s : Sch) (t n : Str) (L : Addr), vs = [.ref S, .str t, .ref L] ∧ ScV H S s ∧ H L = some (.lst [.str n]) ∧ ∀ H', Same H H' → Q (.bl (match tabOf (tbs s) t with | none => true | some x => !decide (n ∈ colNs x.cols))) H'
def spKeyName : Sp := fun vs H Q _ => ∃ (a : Ads) (t : Tab), vs = [.ref a.d] ∧ DescAt H a t ∧ 1 ≤ t.cols.length ∧ Q (.str (keyN t)) H
def spKeyKind : Sp := fun vs H Q _ => ∃ (a : Ads) (t : Tab), vs = [.ref a.d] ∧ DescAt H a t ∧ 1 ≤ t.cols.length ∧ Q (.str (keyK t)) H
def spColCalled : Sp := fun vs H Q _ => ∃ (a : Ads) (t : Tab) (n : Str), vs = [.ref a.d, .str n] ∧ DescAt H a t ∧ t.cols.length ≤ 40 ∧ n ∈ colNs t.cols ∧ ∀ ca c H', t.cols[(colNs t.cols).idxOf n]? = some c → H' ca = some (.tup [.str c.n, .str c.k, .bl c.b]) → Same H H' → Q (.ref ca) H'
def spFull : Sp := fun vs H Q _ => ∃ (S : Addr) (s : Sch) (q : Ads × Tab) (p : Pt), vs = [.ref S, .str q.2.n, .str (ptN p)] ∧ ScV H S s ∧ q ∈ s ∧ ∀ H', Same H H' → Q (.str (fullM (tbs s) q.2 p)) H'
def spDropCode : Sp := fun vs H Q _ => ∃ (S : Addr) (s : Sch) (t : Str) (i : It) (v : V), vs = [.ref S, .str t, .str (ptN (itP i)), v] ∧ ScV H S s ∧ Tp H v (itD i) ∧ itOk i ∧ ∀ H', Same H H' → Q (.str (match tabOf (tbs s) t with | none => "missing" | some x => dropM (tbs s) x i)) H'
def spCode (P : LS → Prop) : Sp := fun vs H Q _ => ∃ (S : Addr) (s : Sch) (st : Addr) (l : LS), vs = [.ref S, .ref st] ∧ ScV H S s ∧ Tp H (.ref st) (lsD l) ∧ lsOk l ∧ P l ∧ ∀ H', Same H H' → Q (.str (codeL (tbs s) l)) H'
def spConstraint : Sp := fun vs H Q _ => ∃ (st : Addr) (l : LS), vs = [.ref st] ∧ Tp H (.ref st) (lsD l) ∧ ∀ p v H', H' p = some (.tup [.str (ptN (itP (lsI l))), v]) → Tp H' v (itD (lsI l)) → Same H H' → Q (.ref p) H'
def spTargL : Sp := fun vs H Q _ => ∃ (S : Addr) (s : Sch) (st : Addr) (l : LS), vs = [.ref S, .ref st] ∧ ScV H S s ∧ Tp H (.ref st) (lsD l) ∧ lsOk l ∧ codeL (tbs s) l = "" ∧ ∀ S' s' H', NewSch H H' S' s' (targL (tbs s) l) → Q (.ref S') H'
def spTarget (C : Addr) : Sp := fun vs H Q E => ∃ (S : Addr) (s : Sch) (st : Addr) (l : LS), vs = [.ref S, .ref st] ∧ ScV H S s ∧ Tp H (.ref st) (lsD l) ∧ lsOk l ∧
  (codeL (tbs s) l = "" → ∀ S' s' H', NewSch H H' S' s' (targL (tbs s) l) → Q (.ref S') H') ∧
  (codeL (tbs s) l ≠ "" → ∀ H1 d, Same H H1 → H1 d = none → E (.ref C) (some d) (upd H1 d (.xd [("index", .int 0), ("code", .str (codeL (tbs s) l))])))
theorem tab_cases {s : Sch} (nm : (schN s).Nodup) (n : Str) : (n ∉ schN s ∧ tabOf (tbs s) n = none) ∨ ∃ p ∈ s, p.2.n = n ∧ tabOf (tbs s) n = some p.2 := by
  by_cases h : n ∈ schN s
  · obtain ⟨p, hp, rfl⟩ := sch_in h
    exact .inr ⟨p, hp, rfl, tabOf_in nm hp⟩
  · exact .inl ⟨h, tabOf_out h⟩
theorem idx_get {cols : List Col} {n : Str} (h : n ∈ colNs cols) : ∃ c, cols[(colNs cols).idxOf n]? = some c ∧ c.n = n ∧ c.k = kindAt cols n ∧ c ∈ cols := by
  obtain ⟨j, e1, e2, e3, _⟩ := idx_str h
  have hj : j < cols.length := by unfold colNs at e2; rwa [List.length_map] at e2
  have ec : cols[j]? = some cols[j] := List.getElem?_eq_getElem hj
  refine ⟨cols[j], by rw [← e1]; exact ec, ?_, ?_, List.getElem_mem hj⟩
  · unfold colNs at e3
    rw [List.getElem?_map, ec] at e3
    exact Option.some.inj e3
  · unfold kindAt
    rw [← e1, List.getD_eq_getElem?_getD, List.getElem?_map, ec]
    rfl
theorem key_at {t : Tab} (h : 1 ≤ t.cols.length) : ∃ c, t.cols[0]? = some c ∧ c.n = keyN t ∧ c.k = keyK t ∧ keyN t ∈ colNs t.cols := by
  cases e : t.cols with
  | nil => rw [e] at h; exact absurd h (by decide)
  | cons c r => exact ⟨c, rfl, by unfold keyN colNs; rw [e]; rfl, by unfold keyK; rw [e]; rfl, by unfold keyN colNs; rw [e]; simp⟩
end Lt
namespace Lt
open PySem L2 TL
theorem units_of {A : Around} {k : Nat} (hr : Room k A) : A.units + 65 < cLine := by
  have := hr.un
  omega
end Lt
namespace Lt
open PySem L2 TL
theorem TpL.c1 {H : Hp} {d : D} {ds : List D} {xs : List V} (h : TpL H xs (d :: ds)) : ∃ v vs, xs = v :: vs ∧ Tp H v d ∧ TpL H vs ds := by
  cases h with | cons a b => exact ⟨_, _, rfl, a, b⟩
theorem TpL.c0 {H : Hp} {xs : List V} (h : TpL H xs []) : xs = [] := by cases h; rfl
theorem Tp.s1 {H : Hp} {v w : V} (h : Tp H v (.s w)) : v = w := by cases h; rfl
theorem ls_at {H : Hp} {st : Addr} {l : LS} (h : Tp H (.ref st) (lsD l)) : ∃ ys, H st = some (.tup (.str (lsK l) :: .str (lsT l) :: ys)) ∧ TpL H ys (lsR l) := by
  obtain ⟨st', xs, e, hst, r⟩ := t_at h
  cases e
  obtain ⟨v, vs, rfl, a, r⟩ := r.c1
  obtain ⟨w, ws, rfl, b, r⟩ := r.c1
  rw [a.s1, b.s1] at hst
  exact ⟨ws, hst, r⟩
theorem tp_one {H : Hp} {xs : List V} {d : D} (h : TpL H xs [d]) : ∃ v, xs = [v] ∧ Tp H v d := by
  obtain ⟨v, vs, rfl, a, r⟩ := h.c1
  rw [r.c0]
  exact ⟨v, rfl, a⟩
theorem tp_two {H : Hp} {xs : List V} {u v : V} (h : TpL H xs [.s u, .s v]) : xs = [u, v] := by
  obtain ⟨x, vs, rfl, a, r⟩ := h.c1
  obtain ⟨y, rfl, b⟩ := tp_one r
  rw [a.s1, b.s1]
end Lt
namespace Lt
open PySem L2 TL
theorem kindA (l : LS) : inV (.str (lsK l)) [.str "add_check", .str "add_unique", .str "add_reference"] = lsA l := by
  cases l <;> (simp only [lsK, lsA]; decide +kernel)
/-- one table of a new schema has got another list of constraints -/
theorem NewSch.set {H H1 H2 : Hp} {S : Addr} {s : Sch} {ts : List Tab} (N : NewSch H H1 S s ts) (nm : (schN s).Nodup) {p : Ads × Tab} (hp : p ∈ s) (e : Same H1 H2) {pt : Pt} {ys : List V} {t' : Tab} (hn : t'.n = p.2.n) (D : DescAt (upd H2 (ptA p.1 pt) (.lst ys)) p.1 t') :
    NewSch H (upd H2 (ptA p.1 pt) (.lst ys)) S (s.map fun x => if x.2.n = p.2.n then (x.1, t') else x) (ts.map fun x => if x.n = p.2.n then t' else x) := by
  have hb : ptA p.1 pt ∈ adL p.1 := by cases pt <;> simp [ptA, adL]
  obtain ⟨zs, hz⟩ := (N.ds p hp).isL _ hb
  have hz2 := e _ _ hz
  have kt : KeepT H2 (upd H2 (ptA p.1 pt) (.lst ys)) := KeepT.upd fun xs z => by rw [hz2] at z; cases z
  have ad : (s.map fun x => if x.2.n = p.2.n then (x.1, t') else x).map (·.1) = s.map (·.1) := by
    rw [List.map_map]
    refine List.map_congr_left fun x _ => ?_
    show (if x.2.n = p.2.n then (x.1, t') else x).1 = x.1
    split <;> rfl
  have nk : schK (s.map fun x => if x.2.n = p.2.n then (x.1, t') else x) = schK s := by
    unfold schK
    rw [List.map_map]
    refine List.map_congr_left fun x _ => ?_
    show ((Sum.inr (if x.2.n = p.2.n then (x.1, t') else x).2.n : Key), V.ref (if x.2.n = p.2.n then (x.1, t') else x).1.d) = _
    split
    · rename_i h; rw [h, ← hn]
    · rfl
  have back : ∀ x ∈ (s.map fun x => if x.2.n = p.2.n then (x.1, t') else x), x = (p.1, t') ∨ (x ∈ s ∧ x.1 ≠ p.1 ∧ x.2.n ≠ p.2.n) := fun x hx => by
    obtain ⟨y, hy, rfl⟩ := List.mem_map.mp hx
    by_cases h : y.2.n = p.2.n
    · rw [if_pos h]
      have := sch_one nm hy hp h
      subst this
      exact .inl rfl
    · rw [if_neg h]
      refine .inr ⟨hy, fun z => h ?_, h⟩
      have hd : y.1.d = p.1.d := by rw [z]
      obtain ⟨i1, h1, e1⟩ := List.getElem_of_mem hy
      obtain ⟨i2, h2, e2⟩ := List.getElem_of_mem hp
      have b1 : (s.map fun p => p.1.d)[i1]? = some p.1.d := by rw [List.getElem?_map, List.getElem?_eq_getElem h1, e1]; exact congrArg some hd
      have b2 : (s.map fun p => p.1.d)[i2]? = some p.1.d := by rw [List.getElem?_map, List.getElem?_eq_getElem h2, e2]; rfl
      have := nd_ix N.dn b1 b2
      subst this
      rw [e1] at e2
      rw [e2]
  refine ⟨?_, fun x hx => ?_, ?_, N.fS, fun x hx => ?_, ?_, ?_, ?_⟩
  · rw [nk, upd_ne (fun z => by have := e _ _ N.sk; rw [z, hz2] at this; cases this)]
    exact e _ _ N.sk
  · rcases back x hx with rfl | ⟨h1, h2, h3⟩
    · exact D
    · have D1 := (N.ds x h1).mono e
      refine D1.frame kt (fun o z => by rw [upd_ne (fun w => by have := D1.dk; rw [w, hz2] at this; cases this)]; exact z) (fun b hb' o z => ?_)
      rw [upd_ne (fun w => ?_)]
      · exact z
      · have := flat_one N.ln h1 hp hb' (by rw [w]; exact hb)
        exact h2 (by rw [this])
  · rw [← N.ts, List.map_map, List.map_map]
    refine List.map_congr_left fun x _ => ?_
    show (if x.2.n = p.2.n then (x.1, t') else x).2 = if x.2.n = p.2.n then t' else x.2
    split <;> rfl
  · rcases back x hx with rfl | ⟨h1, _⟩
    · exact N.fd p hp
    · exact N.fd x h1
  · have e2 : (s.map fun x => if x.2.n = p.2.n then (x.1, t') else x).map (fun p => p.1.d) = s.map fun p => p.1.d := by
      rw [List.map_map]
      refine List.map_congr_left fun x _ => ?_
      show (if x.2.n = p.2.n then (x.1, t') else x).1.d = x.1.d
      split <;> rfl
    rw [e2]; exact N.dn
  · rw [schL_of ad]; exact N.ln
  · intro b o hb'
    rw [upd_ne (fun z => by have := (N.fd p hp).2.2 _ hb; rw [← z, hb'] at this; cases this)]
    exact e _ _ (N.se _ _ hb')
theorem codeL_some {ts : List Tab} {l : LS} (h : codeL ts l = "") : ∃ x, tabOf ts (lsT l) = some x ∧ codeT ts x l = "" := by
  unfold codeL at h
  cases e : tabOf ts (lsT l) with
  | none =>
    rw [e] at h
    have h : ("missing" : Str) = "" := h
    exact absurd h (by decide +kernel)
  | some x => rw [e] at h; exact ⟨x, rfl, h⟩
theorem full_len {ts : List Tab} {x : Tab} {p : Pt} (h : fullM ts x p = "") : ptL x p < 4 := by
  unfold fullM at h
  split at h
  · exact absurd h (by decide +kernel)
  · split at h
    · exact absurd h (by decide +kernel)
    · omega
theorem code_add {ts : List Tab} {x : Tab} {l : LS} (h : codeT ts x l = "") (a : lsA l = true) : ptL x (itP (lsI l)) < 4 := by
  cases l with
  | addC t c =>
    simp only [codeT] at h
    split at h
    · exact full_len h
    · exact absurd h (by decide +kernel)
  | addU t n =>
    simp only [codeT] at h
    split at h
    · split at h
      · exact absurd h (by decide +kernel)
      · split at h
        · exact absurd h (by decide +kernel)
        · exact full_len h
    · exact absurd h (by decide +kernel)
  | addR t n o =>
    simp only [codeT] at h
    split at h
    · split at h
      · exact absurd h (by decide +kernel)
      · split at h
        · exact absurd h (by decide +kernel)
        · split at h
          · exact absurd h (by decide +kernel)
          · split at h
            · exact absurd h (by decide +kernel)
            · split at h
              · exact absurd h (by decide +kernel)
              · exact full_len h
    · exact absurd h (by decide +kernel)
  | dropC t c => cases a
  | dropU t n => cases a
  | dropR t n o => cases a
theorem drop_has {ts : List Tab} {x : Tab} {i : It} (h : dropM ts x i = "") : hasIt x i = true := by
  unfold dropM at h
  cases e : hasIt x i with
  | true => rfl
  | false =>
    rw [e] at h
    have h : ("missing" : Str) = "" := h
    exact absurd h (by decide +kernel)
theorem code_drop {ts : List Tab} {x : Tab} {l : LS} (h : codeT ts x l = "") (a : lsA l = false) : hasIt x (lsI l) = true := by
  cases l with
  | addC t c => cases a
  | addU t n => cases a
  | addR t n o => cases a
  | dropC t c => exact drop_has h
  | dropU t n => exact drop_has h
  | dropR t n o => exact drop_has h
end Lt

set_option autoImplicit false
namespace Lt
open PySem L2 TL
open C8 (pss_cut)
theorem iteBF {b : Bool} {A B : Prop} (hb : b = false) (h : B) : if b = true then A else B := by rw [hb]; exact iteF h
theorem iteBT {b : Bool} {A B : Prop} (hb : b = true) (h : A) : if b = true then A else B := by rw [hb]; exact iteT h
/-! ## what the law draws for steps on constraints -/
def kinds6 : List Str := ["add_check", "drop_check", "add_unique", "drop_unique", "add_reference", "drop_reference"]
/-- _law_pick -/
def spPick : Sp := fun vs H Q _ => ∃ (t c L : Addr) (cs : List Int) (xs : List V) (ds : List D) (o : V), vs = [.ref t, .ref L, o] ∧ TapeAt H t c cs ∧ H L = some (.lst xs) ∧ TpL H xs ds ∧ clL ds = true ∧ dpL ds ≤ 10 ∧ xs.length ≤ 40 ∧
  ∀ v H', (v = o ∨ ∃ d ∈ ds, Tp H' v d) → TapeAt H' t c cs → SameX t H H' → Q v H'
theorem strs_ok {xs : List Str} (h : ∀ x ∈ xs, PyData.strOk x = true) : clL (xs.map fun x => D.s (.str x)) = true ∧ dpL (xs.map fun x => D.s (.str x)) ≤ 10 :=
  ⟨clL_all.mpr fun d hd => by obtain ⟨x, hx, rfl⟩ := List.mem_map.mp hd; exact h x hx, dpL_le fun d hd => by obtain ⟨x, hx, rfl⟩ := List.mem_map.mp hd; exact Nat.zero_le _⟩
theorem pick_str {H : Hp} {v : V} {o : Str} {xs : List Str} (h : v = .str o ∨ ∃ d ∈ xs.map (fun x => D.s (.str x)), Tp H v d) (ho : PyData.strOk o = true) (hx : ∀ x ∈ xs, PyData.strOk x = true) : ∃ n, v = .str n ∧ PyData.strOk n = true := by
  rcases h with rfl | ⟨d, hd, ht⟩
  · exact ⟨o, rfl, ho⟩
  · obtain ⟨x, hx', rfl⟩ := List.mem_map.mp hd
    exact ⟨x, ht.s1, hx x hx'⟩
/-- a part of a description, or of what stands for it -/
def PartI (H : Hp) (d : Addr) (p : Pt) : Prop := ∃ (b : Addr) (xs : List V) (is : List It), DGet H d (.str (ptN p)) (some (.ref b)) ∧ H b = some (.lst xs) ∧ TpL H xs (is.map itD) ∧ (∀ i ∈ is, itOk i ∧ itP i = p) ∧ is.length ≤ 4
theorem its_ok {is : List It} (h : ∀ i ∈ is, itOk i) : clL (is.map itD) = true ∧ dpL (is.map itD) ≤ 3 :=
  ⟨clL_all.mpr fun d hd => by obtain ⟨x, hx, rfl⟩ := List.mem_map.mp hd; exact (itD_nb (h x hx)).2.1, dpL_le fun d hd => by obtain ⟨x, hx, rfl⟩ := List.mem_map.mp hd; exact (itD_nb (h x hx)).2.2⟩
theorem DescAt.parts {H : Hp} {a : Ads} {t : Tab} (D : DescAt H a t) (v : TabV t) (p : Pt) : PartI H a.d p := by
  obtain ⟨g, xs, h1, h2⟩ := D.part p
  cases p with
  | c => exact ⟨_, xs, t.ch.map .c, g, h1, by rw [List.map_map]; exact h2, fun i hi => by obtain ⟨x, hx, rfl⟩ := List.mem_map.mp hi; exact ⟨v.cc x hx, rfl⟩, by rw [List.length_map]; exact v.c4⟩
  | u => exact ⟨_, xs, t.un.map .u, g, h1, by rw [List.map_map]; exact h2, fun i hi => by obtain ⟨x, hx, rfl⟩ := List.mem_map.mp hi; exact ⟨v.un x hx, rfl⟩, by rw [List.length_map]; exact v.u4⟩
  | r => exact ⟨_, xs, t.rf.map .r, g, h1, by rw [List.map_map]; exact h2, fun i hi => by obtain ⟨x, hx, rfl⟩ := List.mem_map.mp hi; exact ⟨v.rf x hx, rfl⟩, by rw [List.length_map]; exact v.r4⟩
def descE (k u r : Addr) : List (Key × V) := [(Sum.inr ("checks" : Str), .ref k), (Sum.inr ("uniques" : Str), .ref u), (Sum.inr ("references" : Str), .ref r)]
theorem merge_descE (k u r : Addr) : mergeK [] (descE k u r) = descE k u r := by
  simp [mergeK, putK, descE, e_ch_un, e_ch_rf, e_un_rf]
theorem parts_none {H : Hp} {d k u r : Addr} (hd : H d = some (.dK (descE k u r))) (hk : H k = some (.lst [])) (hu : H u = some (.lst [])) (hr : H r = some (.lst [])) (p : Pt) : PartI H d p := by
  have g : ∀ n : Str, DGet H d (.str n) (valV (descE k u r) (Sum.inr n : Key)) := fun n => DGet.k (k := (Sum.inr n : Key)) hd
  have e1 : valV (descE k u r) (Sum.inr ("checks" : Str) : Key) = some (.ref k) := valV_pos rfl
  have e2 : valV (descE k u r) (Sum.inr ("uniques" : Str) : Key) = some (.ref u) := by unfold descE; rw [valV_neg (fun z => e_ch_un (Sum.inr.inj z)), valV_pos rfl]
  have e3 : valV (descE k u r) (Sum.inr ("references" : Str) : Key) = some (.ref r) := by unfold descE; rw [valV_neg (fun z => e_ch_rf (Sum.inr.inj z)), valV_neg (fun z => e_un_rf (Sum.inr.inj z)), valV_pos rfl]
  have no : ∀ p : Pt, ∀ i ∈ ([] : List It), itOk i ∧ itP i = p := fun _ i hi => absurd hi (List.not_mem_nil)
  cases p with
  | c => have := g "checks"; rw [e1] at this; exact ⟨k, [], [], this, hk, .nil, no _, by decide⟩
  | u => have := g "uniques"; rw [e2] at this; exact ⟨u, [], [], this, hu, .nil, no _, by decide⟩
  | r => have := g "references"; rw [e3] at this; exact ⟨r, [], [], this, hr, .nil, no _, by decide⟩
theorem pick_it {H : Hp} {v w : V} {p : Pt} {is : List It} (h : v = w ∨ ∃ d ∈ is.map itD, Tp H v d) (hw : ∃ i, itOk i ∧ itP i = p ∧ Tp H w (itD i)) (hi : ∀ i ∈ is, itOk i ∧ itP i = p) : ∃ i, itOk i ∧ itP i = p ∧ Tp H v (itD i) := by
  rcases h with rfl | ⟨d, hd, ht⟩
  · exact hw
  · obtain ⟨x, hx, rfl⟩ := List.mem_map.mp hd
    exact ⟨x, (hi x hx).1, (hi x hx).2, ht⟩
def ColsOkD (cols : List Col) : Prop := ColsOk [] cols ∧ 1 ≤ cols.length ∧ cols.length ≤ 8
/-- the columns of a table that is not there -/
def cols2 : List Col := [⟨"id", "int", false⟩, ⟨"a", "text", true⟩]
theorem cols2_ok : ColsOkD cols2 := by
  have n1 : nameOk "id" := ⟨by decide +kernel, ⟨105, [100], by decide +kernel, by decide, by decide⟩, fun c hc => by
    have e : tl ("id" : Str) = [105, 100] := by decide +kernel
    rw [e] at hc
    simp only [List.mem_cons, List.not_mem_nil, or_false] at hc
    rcases hc with rfl | rfl <;> (unfold nmCh; decide)⟩
  have n2 : nameOk "a" := ⟨by decide +kernel, ⟨97, [], by decide +kernel, by decide, by decide⟩, fun c hc => by
    have e : tl ("a" : Str) = [97] := by decide +kernel
    rw [e] at hc
    simp only [List.mem_cons, List.not_mem_nil, or_false] at hc
    rcases hc with rfl <;> (unfold nmCh; decide)⟩
  refine ⟨⟨by decide +kernel, fun n hn => ⟨List.not_mem_nil, ?_⟩, fun c hc => ?_, fun c hc => ?_⟩, by decide, by decide⟩
  · simp only [colNs, cols2, List.map_cons, List.map_nil, List.mem_cons, List.not_mem_nil, or_false] at hn
    rcases hn with rfl | rfl
    · exact n1
    · exact n2
  · simp only [cols2, List.mem_cons, List.not_mem_nil, or_false] at hc
    rcases hc with rfl | rfl
    · exact .inl rfl
    · exact .inr rfl
  · have : cols2[0]? = some ⟨"id", "int", false⟩ := rfl
    rw [this] at hc
    cases hc
    rfl
theorem six_no {k : Str} (h : k ∈ kinds6) : inV (.str k) (([("rename_column" : Str), ("reorder" : Str), ("add_column" : Str), ("drop_column" : Str), ("convert" : Str), ("split_column" : Str), ("merge_columns" : Str)] : List Str).map V.str) = false := by
  simp only [kinds6, List.mem_cons, List.not_mem_nil, or_false] at h
  rcases h with rfl | rfl | rfl | rfl | rfl | rfl <;> decide +kernel
theorem six_in {k : Str} (h : k ∈ kinds6) : (!(Builtin.Str.occurrences k "check" 0 k.length 1).isEmpty) = true ∨ ((!(Builtin.Str.occurrences k "check" 0 k.length 1).isEmpty) = false ∧ (!(Builtin.Str.occurrences k "unique" 0 k.length 1).isEmpty) = true) ∨ ((!(Builtin.Str.occurrences k "check" 0 k.length 1).isEmpty) = false ∧ (!(Builtin.Str.occurrences k "unique" 0 k.length 1).isEmpty) = false ∧ (!(Builtin.Str.occurrences k "reference" 0 k.length 1).isEmpty) = true) := by
  simp only [kinds6, List.mem_cons, List.not_mem_nil, or_false] at h
  rcases h with rfl | rfl | rfl | rfl | rfl | rfl
  · exact .inl (by decide +kernel)
  · exact .inl (by decide +kernel)
  · exact .inr (.inl (by decide +kernel))
  · exact .inr (.inl (by decide +kernel))
  · exact .inr (.inr (by decide +kernel))
  · exact .inr (.inr (by decide +kernel))
/-- _law_limit_step -/
def spLimitStep : Sp := fun vs H Q _ => ∃ (t c S C : Addr) (cs : List Int) (s : Sch) (k tn : Str) (cols : List Col), vs = [.ref t, .str k, .ref S, .str tn, .ref C] ∧ TapeAt H t c cs ∧ SchAt H S s t c ∧ (∀ p ∈ s, TabV p.2) ∧ s.length ≤ 6 ∧ k ∈ kinds6 ∧ PyData.strOk tn = true ∧ ColsAt H C cols ∧ ColsOkD cols ∧
  ∀ st l H', Tp H' (.ref st) (lsD l) → lsOk l → TapeAt H' t c cs → SameX t H H' → Q (.ref st) H'
def spLimStep : Sp := fun vs H Q _ => ∃ (t c S K : Addr) (cs : List Int) (s : Sch), vs = [.ref t, .ref S, .ref K] ∧ TapeAt H t c cs ∧ SchAt H S s t c ∧ (∀ p ∈ s, TabV p.2) ∧ s.length ≤ 6 ∧ H K = some (.lst (kinds6.map V.str)) ∧
  ∀ st l H', Tp H' (.ref st) (lsD l) → lsOk l → TapeAt H' t c cs → SameX t H H' → Q (.ref st) H'
theorem fitsK_text {cl : Cl} (h : ClG cl) {k : Str} (hk : k = ("int" : Str) ∨ k = ("text" : Str)) : fitsK cl.v k true = !(decide (cl.v ≠ .non) && !decide ((match cl.v with | .str _ => true | _ => false) = decide (k = ("text" : Str)))) := by
  have ti : ¬ ("text" : Str) = ("int" : Str) := by decide +kernel
  have it : ¬ ("int" : Str) = ("text" : Str) := by decide +kernel
  rcases h with e | ⟨i, e, h1, h2⟩ | ⟨y, e, h1, h2⟩ <;> rw [e]
  · rfl
  · have g : goodV (.int i) = true := decide_eq_true (by omega)
    unfold fitsK
    rw [if_neg (fun z => nomatch z), g, Bool.true_and]
    rcases hk with rfl | rfl
    · show decide (("int" : Str) = "int") = _
      rw [decide_eq_true rfl, decide_eq_false it]
      rfl
    · show decide (("int" : Str) = "text") = _
      rw [decide_eq_false it, decide_eq_true rfl]
      rfl
  · have g : goodV (.str y) = true := decide_eq_true ⟨h1, h2⟩
    unfold fitsK
    rw [if_neg (fun z => nomatch z), g, Bool.true_and]
    rcases hk with rfl | rfl
    · show decide (("text" : Str) = "int") = _
      rw [decide_eq_false ti, decide_eq_false it]
      rfl
    · show decide (("text" : Str) = "text") = _
      rw [decide_eq_true rfl]
      rfl
theorem kindAt_kind {cols : List Col} (co : ColsOk [] cols) {n : Str} (h : n ∈ colNs cols) : kindAt cols n = ("int" : Str) ∨ kindAt cols n = ("text" : Str) := by
  obtain ⟨c, h1, h2, h3, h4⟩ := idx_get h
  rw [← h3]
  exact co.kd c h4
theorem strV_dec (a b : Str) : decide (V.str a = V.str b) = decide (a = b) := by
  by_cases h : a = b
  · rw [decide_eq_true h, decide_eq_true (congrArg V.str h)]
  · rw [decide_eq_false h, decide_eq_false (fun z => h (V.str.inj z))]
theorem blV_dec (x y : Bool) : decide (V.bl x = V.bl y) = decide (x = y) := by cases x <;> cases y <;> rfl
/-! ## what the law expects -/
def spCondFits : Sp := fun vs H Q _ => ∃ (c L : Addr) (cond : Cond) (cols : List Col), vs = [.ref c, .ref L] ∧ Tp H (.ref c) (condD cond) ∧ ColsAt H L cols ∧ ColsOk [] cols ∧ cols.length ≤ 40 ∧ (∀ a ∈ cond, ∀ cl ∈ a, ClG cl) ∧ ∀ H', Same H H' → Q (.bl (fitsM cols cond)) H'
def spFound : Sp := fun vs H Q _ => ∃ (a : Ads) (t : Tab) (n : Str), vs = [.ref a.d, .str n] ∧ DescAt H a t ∧ ColsOk [] t.cols ∧ (n ∉ colNs t.cols → Q .non H) ∧
  (n ∈ colNs t.cols → ∀ ca c, t.cols[(colNs t.cols).idxOf n]? = some c → Tp H (.ref ca) (colD c) → Q (.ref ca) H)
/-- a schema that the law owns -/
structure Own (H : Hp) (S : Addr) (s : Sch) : Prop where
  v : ScV H S s
  dn : (S :: s.map fun p => p.1.d).Nodup
  ln : (schL s).Nodup
theorem newT_cols (x : Tab) (l : LS) : (newT x l).cols = x.cols ∧ (newT x l).n = x.n := by
  unfold newT
  split
  · exact add_cols _ _
  · exact del_cols _ _
theorem newT_other (x : Tab) (l : LS) : ∀ q, q ≠ itP (lsI l) → ptD (newT x l) q = ptD x q := by
  unfold newT
  split
  · exact add_other _ _
  · exact del_other _ _
theorem Own.new {H : Hp} {S : Addr} {s : Sch} (O : Own H S s) : NewSch (fun _ => none) H S s (tbs s) := by
  obtain ⟨n1, n2⟩ := List.nodup_cons.mp O.dn
  exact ⟨O.v.sk, O.v.ds, rfl, rfl, fun p hp => ⟨rfl, fun e => n1 (List.mem_map.mpr ⟨p, hp, e⟩), fun b _ => rfl⟩, n2, O.ln, fun b o h => by cases h⟩
theorem Own.change {H H2 : Hp} {S : Addr} {s : Sch} {l : LS} {p : Ads × Tab} {ys : List V} (O : Own H S s) (e : Same H H2) (hp : p ∈ s) (ep : p.2.n = lsT l) (vt : TabV (newT p.2 l)) (r : TpL H2 ys (ptD (newT p.2 l) (itP (lsI l)))) :
    ∃ s', Own (upd H2 (ptA p.1 (itP (lsI l))) (.lst ys)) S s' ∧ s'.map (·.1) = s.map (·.1) ∧ tbs s' = targL (tbs s) l ∧ SameE (schL s) H (upd H2 (ptA p.1 (itP (lsI l))) (.lst ys)) := by
  have ndA : (adL p.1).Nodup := (List.pairwise_flatMap.mp O.ln).1 _ hp
  have D4 : DescAt (upd H2 (ptA p.1 (itP (lsI l))) (.lst ys)) p.1 (newT p.2 l) := ((O.v.ds p hp).mono e).setPart ndA (newT_cols _ _).1 (newT_other _ _) r
  have N4 := O.new.set O.v.nm hp e (newT_cols p.2 l).2 D4
  have hb : ptA p.1 (itP (lsI l)) ∈ adL p.1 := by cases itP (lsI l) <;> simp [ptA, adL]
  have ad : (s.map fun x => if x.2.n = p.2.n then (x.1, newT p.2 l) else x).map (·.1) = s.map (·.1) := by
    rw [List.map_map]
    refine List.map_congr_left fun x _ => ?_
    show (if x.2.n = p.2.n then (x.1, newT p.2 l) else x).1 = x.1
    split <;> rfl
  have nk : schN (s.map fun x => if x.2.n = p.2.n then (x.1, newT p.2 l) else x) = schN s := by
    unfold schN
    rw [List.map_map]
    refine List.map_congr_left fun x _ => ?_
    show (if x.2.n = p.2.n then (x.1, newT p.2 l) else x).2.n = x.2.n
    split
    · rename_i h; rw [h]; exact (newT_cols p.2 l).2
    · rfl
  refine ⟨_, ⟨⟨N4.sk, N4.ds, by rw [nk]; exact O.v.nm, fun x hx => ?_, by rw [List.length_map]; exact O.v.l6⟩, ?_, N4.ln⟩, ad, ?_, ?_⟩
  · obtain ⟨y, hy, rfl⟩ := List.mem_map.mp hx
    split
    · exact vt
    · exact O.v.ok y hy
  · have e2 : (s.map fun x => if x.2.n = p.2.n then (x.1, newT p.2 l) else x).map (fun p => p.1.d) = s.map fun p => p.1.d := by
      rw [List.map_map]
      refine List.map_congr_left fun x _ => ?_
      show (if x.2.n = p.2.n then (x.1, newT p.2 l) else x).1.d = x.1.d
      split <;> rfl
    rw [e2]
    exact O.dn
  · unfold tbs targL
    rw [List.map_map, List.map_map]
    refine List.map_congr_left fun x hx => ?_
    show (if x.2.n = p.2.n then (x.1, newT p.2 l) else x).2 = if x.2.n = lsT l then newT x.2 l else x.2
    rw [ep]
    by_cases h : x.2.n = lsT l
    · rw [if_pos h, if_pos h]
      have : x = p := sch_one O.v.nm hx hp (h.trans ep.symm)
      rw [this]
    · rw [if_neg h, if_neg h]
  · intro b o hb' hn
    rw [upd_ne (fun z => hn (by rw [z]; exact List.mem_flatMap.mpr ⟨p, hp, hb⟩))]
    exact e _ _ hb'
theorem Own.add {H H2 : Hp} {S : Addr} {s : Sch} {l : LS} {p : Ads × Tab} {xs : List V} {w : V} (O : Own H S s) (e : Same H H2) (hp : p ∈ s) (ep : p.2.n = lsT l) (lo : lsOk l) (hA : lsA l = true) (l4 : ptL p.2 (itP (lsI l)) < 4) (r : TpL H2 xs (ptD p.2 (itP (lsI l)))) (hw : Tp H2 w (itD (lsI l))) :
    ∃ s', Own (upd H2 (ptA p.1 (itP (lsI l))) (.lst (xs ++ [w]))) S s' ∧ s'.map (·.1) = s.map (·.1) ∧ tbs s' = targL (tbs s) l ∧ SameE (schL s) H (upd H2 (ptA p.1 (itP (lsI l))) (.lst (xs ++ [w]))) := by
  have hnt : newT p.2 l = addIt p.2 (lsI l) := by unfold newT; rw [hA]; rfl
  refine O.change e hp ep (by rw [hnt]; exact (O.v.ok p hp).add lo.1 l4) ?_
  rw [hnt, add_part]
  exact TpL.snoc r hw
theorem first_at {α : Type} {f : α → Bool} {xs : List α} {j : Nat} (h : xs.findIdx? f = some j) : ∃ z, xs[j]? = some z ∧ f z = true ∧ ∀ (m : Nat) (z' : α), m < j → xs[m]? = some z' → f z' = false := by
  obtain ⟨hj, h1, h2⟩ := List.findIdx?_eq_some_iff_getElem.mp h
  refine ⟨xs[j], List.getElem?_eq_getElem hj, h1, fun m z' hm hz => ?_⟩
  have := h2 m hm
  have e : xs[m]? = some xs[m] := List.getElem?_eq_getElem (by omega)
  rw [e] at hz
  cases hz
  simpa using this
theorem seq_nat {j n : Nat} (h : j < n) : seqIndex? (j : Int) n = some j := by
  unfold seqIndex?
  simp
  omega
theorem pyOfL_length : ∀ ds : List D, (pyOfL ds).length = ds.length
  | [] => rfl
  | d :: ds => congrArg Nat.succ (pyOfL_length ds)
theorem Own.del {H H2 : Hp} {S : Addr} {s : Sch} {l : LS} {p : Ads × Tab} {xs : List V} (O : Own H S s) (e : Same H H2) (hp : p ∈ s) (ep : p.2.n = lsT l) (lo : lsOk l) (hA : lsA l = false) (hi : hasIt p.2 (lsI l) = true) (r : TpL H2 xs (ptD p.2 (itP (lsI l)))) :
    ∃ j z, j < xs.length ∧ (pyOfL (ptD p.2 (itP (lsI l))))[j]? = some z ∧ PyData.eqv z (pyOf (itD (lsI l))) = true ∧ (∀ (m : Nat) (z' : PyData), m < j → (pyOfL (ptD p.2 (itP (lsI l))))[m]? = some z' → PyData.eqv z' (pyOf (itD (lsI l))) = false) ∧
    ∃ s', Own (upd H2 (ptA p.1 (itP (lsI l))) (.lst (xs.eraseIdx j))) S s' ∧ s'.map (·.1) = s.map (·.1) ∧ tbs s' = targL (tbs s) l ∧ SameE (schL s) H (upd H2 (ptA p.1 (itP (lsI l))) (.lst (xs.eraseIdx j))) := by
  have hnt : newT p.2 l = delIt p.2 (lsI l) := by unfold newT; rw [hA]; rfl
  obtain ⟨j, h1, h2⟩ := del_place (O.v.ok p hp) lo.1 hi
  obtain ⟨z, h3, h4, h5⟩ := first_at h1
  have hj : j < xs.length := by
    have := (List.getElem?_eq_some_iff.mp h3).1
    rw [pyOfL_length] at this
    rw [r.length]; exact this
  refine ⟨j, z, hj, h3, h4, h5, O.change e hp ep (by rw [hnt]; exact (O.v.ok p hp).del _) ?_⟩
  rw [hnt, ← h2]
  exact TpL.eraseIdx j r
theorem col_eqv (c d : Col) : PyData.eqv (pyOf (colD c)) (pyOf (colD d)) = (c.n == d.n && (c.k == d.k && c.b == d.b)) := by
  simp only [colD, pyOf, pyOfL, PyData.eqv, PyData.eqvAll, Bool.and_true]
theorem col_eqv_name {c d : Col} (h : c.n = d.n → c = d) : PyData.eqv (pyOf (colD c)) (pyOf (colD d)) = decide (c.n = d.n) := by
  rw [col_eqv]
  by_cases e : c.n = d.n
  · have := h e
    subst this
    simp
  · rw [decide_eq_false e, beq_false_of_ne e]
    rfl
theorem one_name {cols : List Col} (nd : (colNs cols).Nodup) {i j : Nat} {c d : Col} (h1 : cols[i]? = some c) (h2 : cols[j]? = some d) (e : c.n = d.n) : c = d := by
  have b1 : (colNs cols)[i]? = some c.n := by unfold colNs; rw [List.getElem?_map, h1]; rfl
  have b2 : (colNs cols)[j]? = some c.n := by unfold colNs; rw [List.getElem?_map, h2, e]; rfl
  have := nd_ix nd b1 b2
  subst this
  rw [h1] at h2
  exact Option.some.inj h2
theorem col_cl {c : Col} (h : PyData.strOk c.n = true) (k : c.k = ("int" : Str) ∨ c.k = ("text" : Str)) : SeqAt.shaped (pyOf (colD c)) = true := by
  refine shaped_of (d := colD c) ?_ (by show (colD c).dp ≤ 20; simp [colD, D.dp, dpL])
  have : PyData.strOk c.k = true := by rcases k with e | e <;> rw [e] <;> decide +kernel
  show clL [.s (.str c.n), .s (.str c.k), .s (.bl c.b)] = true
  simp only [clL, D.cl, sCl]
  rw [h, this]; rfl
/-! ## what a copy of a schema is -/
mutual
theorem Tp.ofG {H : Hp} : ∀ {d : D} {v : V} {X : List Addr}, Gp H v (gOf d) X → Tp H v d ∧ X = []
  | .s _, _, _, h => by cases h with | s h => exact ⟨.s h, rfl⟩
  | .t ds, _, _, h => by
    cases h with
    | t h n r =>
      obtain ⟨r1, r2⟩ := TpL.ofG r
      exact ⟨.t h r1, r2⟩
theorem TpL.ofG {H : Hp} : ∀ {ds : List D} {vs : List V} {X : List Addr}, GpL H vs (gOfL ds) X → TpL H vs ds ∧ X = []
  | [], _, _, h => by cases h; exact ⟨.nil, rfl⟩
  | d :: ds, _, _, h => by
    cases h with
    | cons h r =>
      obtain ⟨a1, rfl⟩ := Tp.ofG h
      obtain ⟨r1, rfl⟩ := TpL.ofG r
      exact ⟨.cons a1 r1, rfl⟩
end
theorem lG_of {H : Hp} {ds : List D} {v : V} {X : List Addr} (h : Gp H v (lG ds) X) : ∃ a xs, v = .ref a ∧ H a = some (.lst xs) ∧ TpL H xs ds ∧ X = [a] := by
  cases h with
  | l h n r =>
    obtain ⟨r1, rfl⟩ := TpL.ofG r
    exact ⟨_, _, rfl, h, r1, rfl⟩
theorem strs_of {H : Hp} : ∀ {xs : List Str} {vs : List V} {X : List Addr}, GpL H vs (xs.map fun x => G.s (.str x)) X → vs = xs.map V.str ∧ X = []
  | [], _, _, h => by cases h; exact ⟨rfl, rfl⟩
  | x :: r, _, _, h => by
    cases h with
    | cons h q =>
      cases h
      obtain ⟨rfl, rfl⟩ := strs_of q
      exact ⟨rfl, rfl⟩
theorem strsG_of {H : Hp} {xs : List Str} {v : V} {X : List Addr} (h : Gp H v (strsG xs) X) : ∃ a, v = .ref a ∧ H a = some (.lst (xs.map V.str)) ∧ X = [a] := by
  cases h with
  | l h n r =>
    obtain ⟨rfl, rfl⟩ := strs_of r
    exact ⟨_, rfl, h, rfl⟩
theorem descG_of {H : Hp} {t : Tab} {v : V} {X : List Addr} (h : Gp H v (descG t) X) : ∃ a : Ads, v = .ref a.d ∧ DescAt H a t ∧ X = a.d :: adL a := by
  unfold descG at h
  cases h with
  | @d d kvs _ X h n nd r f =>
    cases r with
    | cons g1 r =>
      cases r with
      | cons g2 r =>
        cases r with
        | cons g3 r =>
          cases r with
          | cons g4 r =>
            cases r
            obtain ⟨c, xc, rfl, h1, t1, rfl⟩ := lG_of g1
            obtain ⟨k, xk, rfl, h2, t2, rfl⟩ := lG_of g2
            obtain ⟨u, rfl, h3, rfl⟩ := strsG_of g3
            obtain ⟨r, xr, rfl, h4, t4, rfl⟩ := lG_of g4
            exact ⟨⟨d, c, k, u, r⟩, rfl, ⟨h, ⟨xc, h1, t1⟩, ⟨xk, h2, t2⟩, h3, ⟨xr, h4, t4⟩⟩, rfl⟩
theorem tabsG_of {H : Hp} : ∀ {ts : List Tab} {kvs : List (Key × V)} {X : List Addr}, GpK H kvs (tabsG ts) X → ∃ s : Sch, kvs = schK s ∧ s.map (·.2) = ts ∧ (∀ p ∈ s, DescAt H p.1 p.2) ∧ X = schD s
  | [], _, _, h => by
    unfold tabsG at h
    cases h
    exact ⟨[], rfl, rfl, fun p hp => absurd hp List.not_mem_nil, rfl⟩
  | t :: ts, _, _, h => by
    unfold tabsG at h
    cases h with
    | cons h r =>
      obtain ⟨a, rfl, D, rfl⟩ := descG_of h
      obtain ⟨s, rfl, rfl, hd, rfl⟩ := tabsG_of r
      refine ⟨(a, t) :: s, rfl, rfl, fun p hp => ?_, rfl⟩
      rcases List.mem_cons.mp hp with rfl | hp
      · exact D
      · exact hd p hp
theorem schD_sub : ∀ s : Sch, (s.map fun p => p.1.d).Sublist (schD s) ∧ (schL s).Sublist (schD s)
  | [] => ⟨List.Sublist.refl _, List.Sublist.refl _⟩
  | p :: r => by
    obtain ⟨h1, h2⟩ := schD_sub r
    constructor
    · show (p.1.d :: r.map fun p => p.1.d).Sublist ((p.1.d :: adL p.1) ++ schD r)
      exact List.Sublist.cons₂ _ (h1.trans (List.sublist_append_right _ _))
    · show (adL p.1 ++ schL r).Sublist ((p.1.d :: adL p.1) ++ schD r)
      exact List.Sublist.append (List.sublist_cons_self _ _) h2
theorem Own.copy {H H' : Hp} {S : Addr} {s : Sch} (B : ScV H S s) {x : V} {X : List Addr} (h : Gp H' x (schG s) X) (nd : X.Nodup) : ∃ S' s', x = .ref S' ∧ Own H' S' s' ∧ tbs s' = tbs s ∧ X = S' :: schD s' := by
  unfold schG at h
  cases h with
  | @d S' kvs _ X h n nk r f =>
    obtain ⟨s', rfl, e, hd, rfl⟩ := tabsG_of r
    have en : schN s' = schN s := by
      have := congrArg (List.map fun t : Tab => t.n) e
      rw [List.map_map, List.map_map] at this
      exact this
    have el : s'.length = s.length := by have := congrArg List.length e; rwa [List.length_map, List.length_map] at this
    obtain ⟨n1, n2⟩ := List.nodup_cons.mp nd
    refine ⟨S', s', rfl, ⟨⟨h, hd, by rw [en]; exact B.nm, fun p hp => ?_, by rw [el]; exact B.l6⟩, ?_, n2.sublist (schD_sub s').2⟩, e, rfl⟩
    · have : p.2 ∈ s'.map (·.2) := List.mem_map.mpr ⟨p, hp, rfl⟩
      rw [e] at this
      obtain ⟨q, hq, eq⟩ := List.mem_map.mp this
      rw [← eq]
      exact B.ok q hq
    · exact nd.sublist (List.Sublist.cons₂ _ (schD_sub s').1)
theorem Own.mono {H H' : Hp} {S : Addr} {s : Sch} (O : Own H S s) (e : Same H H') : Own H' S s := ⟨O.v.mono e, O.dn, O.ln⟩
theorem schD_of {s s' : Sch} (h : s'.map (·.1) = s.map (·.1)) : schD s' = schD s := by
  have := congrArg (List.flatMap fun x : Ads => x.d :: adL x) h
  rw [List.flatMap_map, List.flatMap_map] at this
  exact this
theorem Own.at {H H' : Hp} {S t c : Addr} {s : Sch} {cs : List Int} (O : Own H' S s) (T : TapeAt H t c cs) (T' : TapeAt H' t c cs) (fr : ∀ a ∈ S :: schD s, H a = none) : SchAt H' S s t c := by
  have nt : ∀ a ∈ S :: schD s, a ≠ t := fun a ha => (T.fresh (fr a ha)).1
  have nc : ∀ a ∈ S :: schD s, c ≠ a := fun a ha => (T.fresh (fr a ha)).2
  refine ⟨O.v.sk, O.v.ds, O.v.nm, List.nodup_cons.mpr ⟨fun h => ?_, O.dn⟩, List.nodup_cons.mpr ⟨fun h => ?_, O.ln⟩⟩
  · rcases List.mem_cons.mp h with h | h
    · exact nt S List.mem_cons_self h.symm
    · exact nt t (List.mem_cons_of_mem _ ((schD_sub s).1.subset h)) rfl
  · exact nc c (List.mem_cons_of_mem _ ((schD_sub s).2.subset h)) rfl
/-- _law_check, _law_unique, _law_reference -/
def spExp (P : LS → Prop) : Sp := fun vs H Q _ => ∃ (S : Addr) (s : Sch) (st : Addr) (l : LS) (p : Ads × Tab), vs = [.ref S, .ref st] ∧ Own H S s ∧ Tp H (.ref st) (lsD l) ∧ lsOk l ∧ P l ∧ p ∈ s ∧ p.2.n = lsT l ∧
  (codeT (tbs s) p.2 l ≠ "" → ∀ H', Same H H' → Q (.str (codeT (tbs s) p.2 l)) H') ∧
  (codeT (tbs s) p.2 l = "" → ∀ s' H', Own H' S s' → s'.map (·.1) = s.map (·.1) → tbs s' = targL (tbs s) l → SameE (schL s) H H' → Q (.str "") H')
/-- _law_expected -/
def spExpected : Sp := fun vs H Q _ => ∃ (S : Addr) (s : Sch) (st : Addr) (l : LS), vs = [.ref S, .ref st] ∧ ScV H S s ∧ Tp H (.ref st) (lsD l) ∧ lsOk l ∧
  (codeL (tbs s) l ≠ "" → ∀ p H', H' p = some (.tup [.non, .str (codeL (tbs s) l)]) → Same H H' → Q (.ref p) H') ∧
  (codeL (tbs s) l = "" → ∀ p S' s' H', H' p = some (.tup [.ref S', .str ""]) → Own H' S' s' → tbs s' = targL (tbs s) l → (∀ a ∈ S' :: schD s', H a = none) → Same H H' → Q (.ref p) H')
end Lt

set_option autoImplicit false
/-! ## the end over a head by facts -/
namespace Lt
open PySem PySem.Spec PyProof.Rows L2
/-- where the names of the top, their code, the classes' parts stand -/
def refS (o : Obj) : List Addr := match o.data with
  | .func fd => He.refV fd.code
  | .cls cd => cd.ns :: cd.mro.flatMap He.refV
  | .dict es _ => es.toList.flatMap fun e => He.refV e.val
  | _ => []
def stepA (g : Addr → Option Obj) (as : List Addr) : List Addr := as.flatMap fun a => match g a with
  | some o => refS o
  | none => []
def asL (xs cs : List Str) (g : Addr → Option Obj) : List Addr :=
  mainGlobals :: (xs.map (He.ga (He.frG g [mainGlobals])) ++ (stepA g (xs.map (He.ga (He.frG g [mainGlobals]))) ++ (cs.map (He.ga (He.frG g [mainGlobals])) ++ (stepA g (cs.map (He.ga (He.frG g [mainGlobals]))) ++ (stepA g (stepA g (cs.map (He.ga (He.frG g [mainGlobals])))) ++ stepA g (stepA g (stepA g (cs.map (He.ga (He.frG g [mainGlobals]))))))))))
def hookL (as : (Addr → Option Obj) → List Addr) (fa : List He.Fa) (fn : List He.FnD) (ex : PySem.W.Frag → Bool) : PySem.W.Hook where
  α := He.Al × Bool
  obs := fun s => (He.obsE fa fn (He.frG s.heap.get? (as s.heap.get?)), ex (He.frG s.heap.get? (as s.heap.get?)))
  val := fun _ => (He.valE fn, true)
  says := fun _ h => ∃ K : PySem.W.Frag, K.In h ∧ (He.SaysE fa fn K ∧ ex K = true)
  of := fun _ _ e => ⟨_, He.frG_in, congrArg (fun z : He.Al × Bool => z.1) e, congrArg (fun z : He.Al × Bool => z.2) e⟩
  keeps := fun _ _ _ ⟨K, hK, c⟩ k => ⟨K, PySem.W.Frag.In.keeps hK k, c⟩
def obL (as : (Addr → Option Obj) → List Addr) (fa : List He.Fa) (fn : List He.FnD) (ex : PySem.W.Frag → Bool) (g : Addr → Option Obj) : He.Al × Bool := (He.obsE fa fn (He.frG g (as g)), ex (He.frG g (as g)))
theorem obL_eq {as : (Addr → Option Obj) → List Addr} {fa : List He.Fa} {fn : List He.FnD} {ex : PySem.W.Frag → Bool} {g : Addr → Option Obj} {s : Shared} (h : ∀ a, g a = s.heap.get? a) : obL as fa fn ex g = (hookL as fa fn ex).obs s := by
  have e : g = s.heap.get? := funext h
  rw [e] <;> rfl
/-- an error class -/
def clsB (K : PySem.W.Frag) (C : Addr) : Bool := match K.lookup C with
  | some ⟨.type t, _, .cls cd, sl⟩ => (match cd.mro, sl.toList with
    | .ref C' :: bm, [_, _, _, _, some (.builtin n), _] => decide (t = "type") && (decide (C' = C) && (decide (n = "ValueError.__new__") && (cd.hasDict && (!cd.hasDel && HandSPX.refsVE bm))))
    | _, _ => false)
  | _ => false
theorem clsB_ok {K : PySem.W.Frag} {C : Addr} (h : clsB K C = true) : ∃ nm q N bs bm sn sub ab col dd k0 k1 k2 k3 k5, K.lookup C = some (excClassObj nm q C N bs bm true sn sub ab col dd k0 k1 k2 k3 k5 "ValueError.__new__") ∧ HandSPX.refsVE bm = true := by
  unfold clsB at h
  split at h
  · rename_i t dd cd sl hl
    split at h
    · rename_i C' bm k0 k1 k2 k3 n k5 hm hs
      obtain ⟨h1, h⟩ := He.ba h
      obtain ⟨h2, h⟩ := He.ba h
      obtain ⟨h3, h⟩ := He.ba h
      obtain ⟨h4, h⟩ := He.ba h
      obtain ⟨h5, h6⟩ := He.ba h
      have e1 := of_decide_eq_true h1
      have e2 := of_decide_eq_true h2
      have e3 := of_decide_eq_true h3
      obtain ⟨nm, bs, mro, ns, qn, hd, sn, sub, ab, col, del⟩ := cd
      obtain ⟨sl⟩ := sl
      simp only at hm hs h4 h5
      subst hm hs e1 e2 e3
      subst h4
      cases del with
      | true => cases h5
      | false => exact ⟨_, _, _, _, _, _, _, _, _, _, _, _, _, _, _, hl, h6⟩
    · cases h
  · cases h
def errB (K : PySem.W.Frag) (x f1 f2 : Str) : Bool :=
  let C := He.ga K x
  clsB K C && (He.eqO (PySem.W.findIn K (.ref C) "__setattr__") (some (some (.builtin "object.__setattr__"))) && (He.eqO (PySem.W.findIn K (.ref C) "__getattribute__") (some (some (.builtin "BaseException.__getattribute__"))) && (He.eqO (PySem.W.findIn K (.ref C) "__getattr__") (some none) &&
  (He.eqO (PySem.W.findIn K (.ref C) f1) (some none) && (He.eqO (PySem.W.findIn K (.ref C) f2) (some none) && (He.eqO (PySem.W.findIn K (.ref C) "__init__") (some (some (.ref (He.ma K C "__init__")))) && (decide (PySem.W.typeIn K (.ref (He.ma K C "__init__")) = some (.type "function")) &&
  (PySem.W.keepIn K (.ref C) && (decide (PySem.W.subIn K (.ref C) (.type "BaseException") = some true) && (decide (PySem.W.typeIn K (.ref C) = some (.type "type")) && (PySem.W.hasDictIn K C && (decide (PySem.W.subIn K (.ref C) (.ref C) = some true) && PySem.W.keepIn K (.ref (He.ma K C "__init__"))))))))))))))
theorem errB_ok {K : PySem.W.Frag} {mg : Str → Option Value} {x f1 f2 : Str} (h : errB K x f1 f2 = true) (gC : mg x = some (.ref (He.ga K x))) : ErrC K mg x f1 f2 (He.ga K x) (He.ma K (He.ga K x) "__init__") ∧ PySem.W.keepIn K (.ref (He.ma K (He.ga K x) "__init__")) = true := by
  unfold errB at h
  obtain ⟨h1, h⟩ := He.ba h
  obtain ⟨h2, h⟩ := He.ba h
  obtain ⟨h3, h⟩ := He.ba h
  obtain ⟨h4, h⟩ := He.ba h
  obtain ⟨h5, h⟩ := He.ba h
  obtain ⟨h6, h⟩ := He.ba h
  obtain ⟨h7, h⟩ := He.ba h
  obtain ⟨h8, h⟩ := He.ba h
  obtain ⟨h9, h⟩ := He.ba h
  obtain ⟨h10, h⟩ := He.ba h
  obtain ⟨h11, h⟩ := He.ba h
  obtain ⟨h12, h⟩ := He.ba h
  obtain ⟨h13, h14⟩ := He.ba h
  obtain ⟨nm, q, N, bs, bm, sn, sub, ab, col, dd, k0, k1, k2, k3, k5, xL, hb⟩ := clsB_ok h1
  exact ⟨err_mk gC xL hb (He.eqO_ok h2) (He.eqO_ok h3) (He.eqO_ok h4) (He.eqO_ok h5) (He.eqO_ok h6) (He.eqO_ok h7) (of_decide_eq_true h8) h9 (of_decide_eq_true h10) (of_decide_eq_true h11) h12 (of_decide_eq_true h13), h14⟩
end Lt
namespace Lt
open PySem L2 TL
open C8 (pss_cut)
def topS (i : Nat) : Stmt := PySem.Challenge.pw_lenstree_k14_limit_step_schemas.main.body.getD i (.Pass ⟨0, 0, 0, 0⟩)
structure Z (K : PySem.W.Frag) (mg : Str → Option Value) : Prop where
  abs : mg "abs" = none
  int : mg "int" = none
  len : mg "len" = none
  range : mg "range" = none
  list : mg "list" = none
  str : mg "str" = none
  tuple : mg "tuple" = none
  sorted : mg "sorted" = none
  isinstance : mg "isinstance" = none
  dict : mg "dict" = none
  ord : mg "ord" = none
  all : mg "all" = none
  bool : mg "bool" = none
  any : mg "any" = none
  c_PERCENT_CODE : ∃ t, mg "PERCENT_CODE" = some (Value.int 37 t)
  c_LAST_CODE : ∃ t, mg "LAST_CODE" = some (Value.int 126 t)
  c_FIRST_CODE : ∃ t, mg "FIRST_CODE" = some (Value.int 32 t)
  c_MOST_CHARACTERS : ∃ t, mg "MOST_CHARACTERS" = some (Value.int 30 t)
  c_GREATEST : ∃ t, mg "GREATEST" = some (Value.int 999999999 t)
  c_LEAST : ∃ t, mg "LEAST" = some (Value.int (-999999999) t)
  c_MOST_LIMITS : ∃ t, mg "MOST_LIMITS" = some (Value.int 4 t)
  c_COLUMN_KINDS : ∃ a : Addr, mg "COLUMN_KINDS" = some (.ref a) ∧ ∀ H : Hp, SqT K H a [V.str "rename_column", V.str "reorder", V.str "add_column", V.str "drop_column", V.str "convert", V.str "split_column", V.str "merge_columns"]
  c_TABLE_KINDS : ∃ a : Addr, mg "TABLE_KINDS" = some (.ref a) ∧ ∀ H : Hp, SqT K H a [V.str "rename_table", V.str "create_table", V.str "drop_table", V.str "decompose", V.str "recompose", V.str "partition", V.str "union", V.str "move"]
  c_GROUP_KINDS : ∃ a : Addr, mg "GROUP_KINDS" = some (.ref a) ∧ ∀ H : Hp, SqT K H a [V.str "extract", V.str "inline"]
abbrev s_law_tape : Stmt := topS 125
theorem sc_law_tape : FnScope ["script", "cell", "cells", "seed"] ["script"] (defScope s_law_tape) := ⟨rfl, rfl, rfl, by decide +kernel, rfl, by decide +kernel, by decide +kernel⟩
abbrev s_law_take : Stmt := topS 126
theorem sc_law_take : FnScope ["tape", "many", "drawn", "mixed"] ["tape", "many"] (defScope s_law_take) := ⟨rfl, rfl, rfl, by decide +kernel, rfl, by decide +kernel, by decide +kernel⟩
abbrev s_law_name : Stmt := topS 135
theorem sc_law_name : FnScope ["tape", "used", "letters", "signs", "size", "k", "name"] ["tape", "used"] (defScope s_law_name) := ⟨rfl, rfl, rfl, by decide +kernel, rfl, by decide +kernel, by decide +kernel⟩
abbrev s_law_table : Stmt := topS 137
theorem sc_law_table : FnScope ["columns"] ["columns"] (defScope s_law_table) := ⟨rfl, rfl, rfl, by decide +kernel, rfl, by decide +kernel, by decide +kernel⟩
abbrev s_law_columns : Stmt := topS 136
theorem sc_law_columns : FnScope ["tape", "used", "many", "kinds", "columns", "k"] ["tape", "used", "many"] (defScope s_law_columns) := ⟨rfl, rfl, rfl, by decide +kernel, rfl, by decide +kernel, by decide +kernel⟩
abbrev s_law_names : Stmt := topS 138
theorem sc_law_names : FnScope ["columns", "column"] ["columns"] (defScope s_law_names) := ⟨rfl, rfl, rfl, by decide +kernel, rfl, by decide +kernel, by decide +kernel⟩
abbrev s_law_integer : Stmt := topS 133
theorem sc_law_integer : FnScope ["tape", "choice"] ["tape"] (defScope s_law_integer) := ⟨rfl, rfl, rfl, by decide +kernel, rfl, by decide +kernel, by decide +kernel⟩
abbrev s_law_char : Stmt := topS 131
theorem sc_law_char : FnScope ["tape", "chars"] ["tape"] (defScope s_law_char) := ⟨rfl, rfl, rfl, by decide +kernel, rfl, by decide +kernel, by decide +kernel⟩
abbrev s_law_text : Stmt := topS 132
theorem sc_law_text : FnScope ["tape", "size", "k"] ["tape"] (defScope s_law_text) := ⟨rfl, rfl, rfl, by decide +kernel, rfl, by decide +kernel, by decide +kernel⟩
abbrev s_law_value : Stmt := topS 134
theorem sc_law_value : FnScope ["tape", "kind", "nullable"] ["tape", "kind", "nullable"] (defScope s_law_value) := ⟨rfl, rfl, rfl, by decide +kernel, rfl, by decide +kernel, by decide +kernel⟩
abbrev s_law_clause : Stmt := topS 139
theorem sc_law_clause : FnScope ["tape", "columns", "column", "operator"] ["tape", "columns"] (defScope s_law_clause) := ⟨rfl, rfl, rfl, by decide +kernel, rfl, by decide +kernel, by decide +kernel⟩
abbrev s_law_condition : Stmt := topS 140
theorem sc_law_condition : FnScope ["tape", "columns", "condition", "k", "many", "j"] ["tape", "columns"] (defScope s_law_condition) := ⟨rfl, rfl, rfl, by decide +kernel, rfl, by decide +kernel, by decide +kernel⟩
abbrev s_law_limits : Stmt := topS 141
theorem sc_law_limits : FnScope ["tape", "schema", "table", "columns", "names", "name", "others", "k", "column", "other"] ["tape", "schema", "table"] (defScope s_law_limits) := ⟨rfl, rfl, rfl, by decide +kernel, rfl, by decide +kernel, by decide +kernel⟩
abbrev s_law_schema : Stmt := topS 142
theorem sc_law_schema : FnScope ["tape", "least", "most", "used", "schema", "k", "table"] ["tape", "least", "most"] (defScope s_law_schema) := ⟨rfl, rfl, rfl, by decide +kernel, rfl, by decide +kernel, by decide +kernel⟩
abbrev s_law_pick : Stmt := topS 143
theorem sc_law_pick : FnScope ["tape", "items", "other"] ["tape", "items", "other"] (defScope s_law_pick) := ⟨rfl, rfl, rfl, by decide +kernel, rfl, by decide +kernel, by decide +kernel⟩
abbrev s_law_limit_step : Stmt := topS 148
theorem sc_law_limit_step : FnScope ["tape", "kind", "schema", "table", "columns", "inner", "name", "other", "description", "found"] ["tape", "kind", "schema", "table", "columns"] (defScope s_law_limit_step) := ⟨rfl, rfl, rfl, by decide +kernel, rfl, by decide +kernel, by decide +kernel⟩
abbrev s_law_step : Stmt := topS 149
theorem sc_law_step : FnScope ["tape", "schema", "kinds", "kind", "table", "columns"] ["tape", "schema", "kinds"] (defScope s_law_step) := ⟨rfl, rfl, rfl, by decide +kernel, rfl, by decide +kernel, by decide +kernel⟩
abbrev s_law_copy : Stmt := topS 130
theorem sc_law_copy : FnScope ["thing", "result", "key", "item"] ["thing"] (defScope s_law_copy) := ⟨rfl, rfl, rfl, by decide +kernel, rfl, by decide +kernel, by decide +kernel⟩
abbrev s_law_condition_fits : Stmt := topS 154
theorem sc_law_condition_fits : FnScope ["condition", "columns", "kinds", "column", "alternative", "name", "operator", "operand"] ["condition", "columns"] (defScope s_law_condition_fits) := ⟨rfl, rfl, rfl, by decide +kernel, rfl, by decide +kernel, by decide +kernel⟩
abbrev s_law_leads : Stmt := topS 152
theorem sc_law_leads : FnScope ["schema", "table", "name", "reference"] ["schema", "table"] (defScope s_law_leads) := ⟨rfl, rfl, rfl, by decide +kernel, rfl, by decide +kernel, by decide +kernel⟩
abbrev s_law_check : Stmt := topS 157
theorem sc_law_check : FnScope ["schema", "step", "checks"] ["schema", "step"] (defScope s_law_check) := ⟨rfl, rfl, rfl, by decide +kernel, rfl, by decide +kernel, by decide +kernel⟩
abbrev s_law_found : Stmt := topS 155
theorem sc_law_found : FnScope ["description", "name", "column"] ["description", "name"] (defScope s_law_found) := ⟨rfl, rfl, rfl, by decide +kernel, rfl, by decide +kernel, by decide +kernel⟩
abbrev s_law_unique : Stmt := topS 158
theorem sc_law_unique : FnScope ["schema", "step", "description", "uniques"] ["schema", "step"] (defScope s_law_unique) := ⟨rfl, rfl, rfl, by decide +kernel, rfl, by decide +kernel, by decide +kernel⟩
abbrev s_law_reference : Stmt := topS 159
theorem sc_law_reference : FnScope ["schema", "step", "description", "references", "pair", "column"] ["schema", "step"] (defScope s_law_reference) := ⟨rfl, rfl, rfl, by decide +kernel, rfl, by decide +kernel, by decide +kernel⟩
abbrev s_law_expected : Stmt := topS 160
theorem sc_law_expected : FnScope ["schema", "step", "code"] ["schema", "step"] (defScope s_law_expected) := ⟨rfl, rfl, rfl, by decide +kernel, rfl, by decide +kernel, by decide +kernel⟩
abbrev s_kind_of : Stmt := topS 13
theorem sc_kind_of : FnScope ["value"] ["value"] (defScope s_kind_of) := ⟨rfl, rfl, rfl, by decide +kernel, rfl, by decide +kernel, by decide +kernel⟩
abbrev s_is_text_code : Stmt := topS 8
theorem sc_is_text_code : FnScope ["code"] ["code"] (defScope s_is_text_code) := ⟨rfl, rfl, rfl, by decide +kernel, rfl, by decide +kernel, by decide +kernel⟩
abbrev s_is_text_character : Stmt := topS 9
theorem sc_is_text_character : FnScope ["character"] ["character"] (defScope s_is_text_character) := ⟨rfl, rfl, rfl, by decide +kernel, rfl, by decide +kernel, by decide +kernel⟩
abbrev s_is_text : Stmt := topS 10
theorem sc_is_text : FnScope ["thing", "character"] ["thing"] (defScope s_is_text) := ⟨rfl, rfl, rfl, by decide +kernel, rfl, by decide +kernel, by decide +kernel⟩
abbrev s_is_value : Stmt := topS 12
theorem sc_is_value : FnScope ["thing"] ["thing"] (defScope s_is_value) := ⟨rfl, rfl, rfl, by decide +kernel, rfl, by decide +kernel, by decide +kernel⟩
abbrev s_fits_kind : Stmt := topS 14
theorem sc_fits_kind : FnScope ["thing", "kind", "nullable"] ["thing", "kind", "nullable"] (defScope s_fits_kind) := ⟨rfl, rfl, rfl, by decide +kernel, rfl, by decide +kernel, by decide +kernel⟩
abbrev s_clause_fits : Stmt := topS 16
theorem sc_clause_fits : FnScope ["clause", "kinds", "column", "_", "operand"] ["clause", "kinds"] (defScope s_clause_fits) := ⟨rfl, rfl, rfl, by decide +kernel, rfl, by decide +kernel, by decide +kernel⟩
abbrev s_fits : Stmt := topS 17
theorem sc_fits : FnScope ["condition", "columns", "kinds", "column", "alternative", "clause"] ["condition", "columns"] (defScope s_fits) := ⟨rfl, rfl, rfl, by decide +kernel, rfl, by decide +kernel, by decide +kernel⟩
abbrev s_is_referenced : Stmt := topS 39
theorem sc_is_referenced : FnScope ["schema", "table", "name", "_", "other"] ["schema", "table"] (defScope s_is_referenced) := ⟨rfl, rfl, rfl, by decide +kernel, rfl, by decide +kernel, by decide +kernel⟩
abbrev s_full_code : Stmt := topS 90
theorem sc_full_code : FnScope ["schema", "table", "part"] ["schema", "table", "part"] (defScope s_full_code) := ⟨rfl, rfl, rfl, by decide +kernel, rfl, by decide +kernel, by decide +kernel⟩
abbrev s_add_check_code : Stmt := topS 92
theorem sc_add_check_code : FnScope ["schema", "step", "_", "table", "condition"] ["schema", "step"] (defScope s_add_check_code) := ⟨rfl, rfl, rfl, by decide +kernel, rfl, by decide +kernel, by decide +kernel⟩
abbrev s_column_names : Stmt := topS 33
theorem sc_column_names : FnScope ["description", "column"] ["description"] (defScope s_column_names) := ⟨rfl, rfl, rfl, by decide +kernel, rfl, by decide +kernel, by decide +kernel⟩
abbrev s_lacks : Stmt := topS 41
theorem sc_lacks : FnScope ["schema", "table", "columns", "names", "column"] ["schema", "table", "columns"] (defScope s_lacks) := ⟨rfl, rfl, rfl, by decide +kernel, rfl, by decide +kernel, by decide +kernel⟩
abbrev s_key_name : Stmt := topS 42
theorem sc_key_name : FnScope ["description"] ["description"] (defScope s_key_name) := ⟨rfl, rfl, rfl, by decide +kernel, rfl, by decide +kernel, by decide +kernel⟩
abbrev s_add_unique_code : Stmt := topS 93
theorem sc_add_unique_code : FnScope ["schema", "step", "_", "table", "column"] ["schema", "step"] (defScope s_add_unique_code) := ⟨rfl, rfl, rfl, by decide +kernel, rfl, by decide +kernel, by decide +kernel⟩
abbrev s_column_called : Stmt := topS 34
theorem sc_column_called : FnScope ["description", "name"] ["description", "name"] (defScope s_column_called) := ⟨rfl, rfl, rfl, by decide +kernel, rfl, by decide +kernel, by decide +kernel⟩
abbrev s_key_kind : Stmt := topS 43
theorem sc_key_kind : FnScope ["description"] ["description"] (defScope s_key_kind) := ⟨rfl, rfl, rfl, by decide +kernel, rfl, by decide +kernel, by decide +kernel⟩
abbrev s_add_reference_code : Stmt := topS 94
theorem sc_add_reference_code : FnScope ["schema", "step", "_", "table", "column", "other"] ["schema", "step"] (defScope s_add_reference_code) := ⟨rfl, rfl, rfl, by decide +kernel, rfl, by decide +kernel, by decide +kernel⟩
abbrev s_constraint_of : Stmt := topS 95
theorem sc_constraint_of : FnScope ["step", "kind"] ["step"] (defScope s_constraint_of) := ⟨rfl, rfl, rfl, by decide +kernel, rfl, by decide +kernel, by decide +kernel⟩
abbrev s_drop_code : Stmt := topS 91
theorem sc_drop_code : FnScope ["schema", "table", "part", "item"] ["schema", "table", "part", "item"] (defScope s_drop_code) := ⟨rfl, rfl, rfl, by decide +kernel, rfl, by decide +kernel, by decide +kernel⟩
abbrev s_limit_step_code : Stmt := topS 96
theorem sc_limit_step_code : FnScope ["schema", "step", "kind", "table", "part", "item"] ["schema", "step"] (defScope s_limit_step_code) := ⟨rfl, rfl, rfl, by decide +kernel, rfl, by decide +kernel, by decide +kernel⟩
abbrev s_step_code : Stmt := topS 121
theorem sc_step_code : FnScope ["schema", "step", "kind"] ["schema", "step"] (defScope s_step_code) := ⟨rfl, rfl, rfl, by decide +kernel, rfl, by decide +kernel, by decide +kernel⟩
abbrev s_copy_description : Stmt := topS 36
theorem sc_copy_description : FnScope ["description"] ["description"] (defScope s_copy_description) := ⟨rfl, rfl, rfl, by decide +kernel, rfl, by decide +kernel, by decide +kernel⟩
abbrev s_copy_schema : Stmt := topS 37
theorem sc_copy_schema : FnScope ["schema", "table"] ["schema"] (defScope s_copy_schema) := ⟨rfl, rfl, rfl, by decide +kernel, rfl, by decide +kernel, by decide +kernel⟩
abbrev s_limit_step_target : Stmt := topS 97
theorem sc_limit_step_target : FnScope ["schema", "step", "result", "part", "item", "constraints"] ["schema", "step"] (defScope s_limit_step_target) := ⟨rfl, rfl, rfl, by decide +kernel, rfl, by decide +kernel, by decide +kernel⟩
abbrev s_changed_schema : Stmt := topS 122
theorem sc_changed_schema : FnScope ["schema", "step", "kind"] ["schema", "step"] (defScope s_changed_schema) := ⟨rfl, rfl, rfl, by decide +kernel, rfl, by decide +kernel, by decide +kernel⟩
abbrev s_target_schema : Stmt := topS 123
theorem sc_target_schema : FnScope ["schema", "step", "code"] ["schema", "step"] (defScope s_target_schema) := ⟨rfl, rfl, rfl, by decide +kernel, rfl, by decide +kernel, by decide +kernel⟩
abbrev s_law_is_integer : Stmt := topS 127
theorem sc_law_is_integer : FnScope ["actual"] ["actual"] (defScope s_law_is_integer) := ⟨rfl, rfl, rfl, by decide +kernel, rfl, by decide +kernel, by decide +kernel⟩
abbrev s_law_same_items : Stmt := topS 128
theorem sc_law_same_items : FnScope ["actual", "expected", "k"] ["actual", "expected"] (defScope s_law_same_items) := ⟨rfl, rfl, rfl, by decide +kernel, rfl, by decide +kernel, by decide +kernel⟩
abbrev s_law_same : Stmt := topS 129
theorem sc_law_same : FnScope ["actual", "expected", "key"] ["actual", "expected"] (defScope s_law_same) := ⟨rfl, rfl, rfl, by decide +kernel, rfl, by decide +kernel, by decide +kernel⟩
abbrev s_law : Stmt := topS 161
theorem sc_law : FnScope ["script", "tape", "schema", "kinds", "step", "k", "before", "expected", "actual", "e"] ["script"] (defScope s_law) := ⟨rfl, rfl, rfl, by decide +kernel, rfl, by decide +kernel, by decide +kernel⟩
abbrev s_StepError : Stmt := clsSt (topS 23) 0
theorem sc_StepError : FnScope ["self", "code", "index"] ["self", "code", "index"] (defScope s_StepError) := ⟨rfl, rfl, rfl, by decide +kernel, rfl, by decide +kernel, by decide +kernel⟩
end Lt
namespace Lt
open PySem L2 TL
open C8 (pss_cut)
def dF_law_tape : He.FnD := ⟨("_law_tape", none), "_law_tape", "_law_tape", defArgs s_law_tape, defBody s_law_tape, defScope s_law_tape⟩
def dF_law_take : He.FnD := ⟨("_law_take", none), "_law_take", "_law_take", defArgs s_law_take, defBody s_law_take, defScope s_law_take⟩
def dF_law_name : He.FnD := ⟨("_law_name", none), "_law_name", "_law_name", defArgs s_law_name, defBody s_law_name, defScope s_law_name⟩
def dF_law_table : He.FnD := ⟨("_law_table", none), "_law_table", "_law_table", defArgs s_law_table, defBody s_law_table, defScope s_law_table⟩
def dF_law_columns : He.FnD := ⟨("_law_columns", none), "_law_columns", "_law_columns", defArgs s_law_columns, defBody s_law_columns, defScope s_law_columns⟩
def dF_law_names : He.FnD := ⟨("_law_names", none), "_law_names", "_law_names", defArgs s_law_names, defBody s_law_names, defScope s_law_names⟩
def dF_law_integer : He.FnD := ⟨("_law_integer", none), "_law_integer", "_law_integer", defArgs s_law_integer, defBody s_law_integer, defScope s_law_integer⟩
def dF_law_char : He.FnD := ⟨("_law_char", none), "_law_char", "_law_char", defArgs s_law_char, defBody s_law_char, defScope s_law_char⟩
def dF_law_text : He.FnD := ⟨("_law_text", none), "_law_text", "_law_text", defArgs s_law_text, defBody s_law_text, defScope s_law_text⟩
def dF_law_value : He.FnD := ⟨("_law_value", none), "_law_value", "_law_value", defArgs s_law_value, defBody s_law_value, defScope s_law_value⟩
def dF_law_clause : He.FnD := ⟨("_law_clause", none), "_law_clause", "_law_clause", defArgs s_law_clause, defBody s_law_clause, defScope s_law_clause⟩
def dF_law_condition : He.FnD := ⟨("_law_condition", none), "_law_condition", "_law_condition", defArgs s_law_condition, defBody s_law_condition, defScope s_law_condition⟩
def dF_law_limits : He.FnD := ⟨("_law_limits", none), "_law_limits", "_law_limits", defArgs s_law_limits, defBody s_law_limits, defScope s_law_limits⟩
def dF_law_schema : He.FnD := ⟨("_law_schema", none), "_law_schema", "_law_schema", defArgs s_law_schema, defBody s_law_schema, defScope s_law_schema⟩
def dF_law_pick : He.FnD := ⟨("_law_pick", none), "_law_pick", "_law_pick", defArgs s_law_pick, defBody s_law_pick, defScope s_law_pick⟩
def dF_law_limit_step : He.FnD := ⟨("_law_limit_step", none), "_law_limit_step", "_law_limit_step", defArgs s_law_limit_step, defBody s_law_limit_step, defScope s_law_limit_step⟩
def dF_law_step : He.FnD := ⟨("_law_step", none), "_law_step", "_law_step", defArgs s_law_step, defBody s_law_step, defScope s_law_step⟩
def dF_law_copy : He.FnD := ⟨("_law_copy", none), "_law_copy", "_law_copy", defArgs s_law_copy, defBody s_law_copy, defScope s_law_copy⟩
def dF_law_condition_fits : He.FnD := ⟨("_law_condition_fits", none), "_law_condition_fits", "_law_condition_fits", defArgs s_law_condition_fits, defBody s_law_condition_fits, defScope s_law_condition_fits⟩
def dF_law_leads : He.FnD := ⟨("_law_leads", none), "_law_leads", "_law_leads", defArgs s_law_leads, defBody s_law_leads, defScope s_law_leads⟩
def dF_law_check : He.FnD := ⟨("_law_check", none), "_law_check", "_law_check", defArgs s_law_check, defBody s_law_check, defScope s_law_check⟩
def dF_law_found : He.FnD := ⟨("_law_found", none), "_law_found", "_law_found", defArgs s_law_found, defBody s_law_found, defScope s_law_found⟩
def dF_law_unique : He.FnD := ⟨("_law_unique", none), "_law_unique", "_law_unique", defArgs s_law_unique, defBody s_law_unique, defScope s_law_unique⟩
def dF_law_reference : He.FnD := ⟨("_law_reference", none), "_law_reference", "_law_reference", defArgs s_law_reference, defBody s_law_reference, defScope s_law_reference⟩
def dF_law_expected : He.FnD := ⟨("_law_expected", none), "_law_expected", "_law_expected", defArgs s_law_expected, defBody s_law_expected, defScope s_law_expected⟩
def dF_kind_of : He.FnD := ⟨("kind_of", none), "kind_of", "kind_of", defArgs s_kind_of, defBody s_kind_of, defScope s_kind_of⟩
def dF_is_text_code : He.FnD := ⟨("is_text_code", none), "is_text_code", "is_text_code", defArgs s_is_text_code, defBody s_is_text_code, defScope s_is_text_code⟩
def dF_is_text_character : He.FnD := ⟨("is_text_character", none), "is_text_character", "is_text_character", defArgs s_is_text_character, defBody s_is_text_character, defScope s_is_text_character⟩
def dF_is_text : He.FnD := ⟨("is_text", none), "is_text", "is_text", defArgs s_is_text, defBody s_is_text, defScope s_is_text⟩
def dF_is_value : He.FnD := ⟨("is_value", none), "is_value", "is_value", defArgs s_is_value, defBody s_is_value, defScope s_is_value⟩
def dF_fits_kind : He.FnD := ⟨("fits_kind", none), "fits_kind", "fits_kind", defArgs s_fits_kind, defBody s_fits_kind, defScope s_fits_kind⟩
def dF_clause_fits : He.FnD := ⟨("clause_fits", none), "clause_fits", "clause_fits", defArgs s_clause_fits, defBody s_clause_fits, defScope s_clause_fits⟩
def dF_fits : He.FnD := ⟨("fits", none), "fits", "fits", defArgs s_fits, defBody s_fits, defScope s_fits⟩
def dF_is_referenced : He.FnD := ⟨("is_referenced", none), "is_referenced", "is_referenced", defArgs s_is_referenced, defBody s_is_referenced, defScope s_is_referenced⟩
def dF_full_code : He.FnD := ⟨("full_code", none), "full_code", "full_code", defArgs s_full_code, defBody s_full_code, defScope s_full_code⟩
def dF_add_check_code : He.FnD := ⟨("add_check_code", none), "add_check_code", "add_check_code", defArgs s_add_check_code, defBody s_add_check_code, defScope s_add_check_code⟩
def dF_column_names : He.FnD := ⟨("column_names", none), "column_names", "column_names", defArgs s_column_names, defBody s_column_names, defScope s_column_names⟩
def dF_lacks : He.FnD := ⟨("lacks", none), "lacks", "lacks", defArgs s_lacks, defBody s_lacks, defScope s_lacks⟩
def dF_key_name : He.FnD := ⟨("key_name", none), "key_name", "key_name", defArgs s_key_name, defBody s_key_name, defScope s_key_name⟩
def dF_add_unique_code : He.FnD := ⟨("add_unique_code", none), "add_unique_code", "add_unique_code", defArgs s_add_unique_code, defBody s_add_unique_code, defScope s_add_unique_code⟩
def dF_column_called : He.FnD := ⟨("column_called", none), "column_called", "column_called", defArgs s_column_called, defBody s_column_called, defScope s_column_called⟩
def dF_key_kind : He.FnD := ⟨("key_kind", none), "key_kind", "key_kind", defArgs s_key_kind, defBody s_key_kind, defScope s_key_kind⟩
def dF_add_reference_code : He.FnD := ⟨("add_reference_code", none), "add_reference_code", "add_reference_code", defArgs s_add_reference_code, defBody s_add_reference_code, defScope s_add_reference_code⟩
def dF_constraint_of : He.FnD := ⟨("constraint_of", none), "constraint_of", "constraint_of", defArgs s_constraint_of, defBody s_constraint_of, defScope s_constraint_of⟩
def dF_drop_code : He.FnD := ⟨("drop_code", none), "drop_code", "drop_code", defArgs s_drop_code, defBody s_drop_code, defScope s_drop_code⟩
def dF_limit_step_code : He.FnD := ⟨("limit_step_code", none), "limit_step_code", "limit_step_code", defArgs s_limit_step_code, defBody s_limit_step_code, defScope s_limit_step_code⟩
def dF_step_code : He.FnD := ⟨("step_code", none), "step_code", "step_code", defArgs s_step_code, defBody s_step_code, defScope s_step_code⟩
def dF_copy_description : He.FnD := ⟨("copy_description", none), "copy_description", "copy_description", defArgs s_copy_description, defBody s_copy_description, defScope s_copy_description⟩
def dF_copy_schema : He.FnD := ⟨("copy_schema", none), "copy_schema", "copy_schema", defArgs s_copy_schema, defBody s_copy_schema, defScope s_copy_schema⟩
def dF_limit_step_target : He.FnD := ⟨("limit_step_target", none), "limit_step_target", "limit_step_target", defArgs s_limit_step_target, defBody s_limit_step_target, defScope s_limit_step_target⟩
def dF_changed_schema : He.FnD := ⟨("changed_schema", none), "changed_schema", "changed_schema", defArgs s_changed_schema, defBody s_changed_schema, defScope s_changed_schema⟩
def dF_target_schema : He.FnD := ⟨("target_schema", none), "target_schema", "target_schema", defArgs s_target_schema, defBody s_target_schema, defScope s_target_schema⟩
def dF_law_is_integer : He.FnD := ⟨("_law_is_integer", none), "_law_is_integer", "_law_is_integer", defArgs s_law_is_integer, defBody s_law_is_integer, defScope s_law_is_integer⟩
def dF_law_same_items : He.FnD := ⟨("_law_same_items", none), "_law_same_items", "_law_same_items", defArgs s_law_same_items, defBody s_law_same_items, defScope s_law_same_items⟩
def dF_law_same : He.FnD := ⟨("_law_same", none), "_law_same", "_law_same", defArgs s_law_same, defBody s_law_same, defScope s_law_same⟩
def dF_law : He.FnD := ⟨("law", none), "law", "law", defArgs s_law, defBody s_law, defScope s_law⟩
def dF_StepError : He.FnD := ⟨("StepError", some "__init__"), "__init__", "StepError.__init__", defArgs s_StepError, defBody s_StepError, defScope s_StepError⟩
def fnL : List He.FnD := [dF_law_tape, dF_law_take, dF_law_name, dF_law_table, dF_law_columns, dF_law_names, dF_law_integer, dF_law_char, dF_law_text, dF_law_value, dF_law_clause, dF_law_condition, dF_law_limits, dF_law_schema, dF_law_pick, dF_law_limit_step, dF_law_step, dF_law_copy, dF_law_condition_fits, dF_law_leads, dF_law_check, dF_law_found, dF_law_unique, dF_law_reference, dF_law_expected, dF_kind_of, dF_is_text_code, dF_is_text_character, dF_is_text, dF_is_value, dF_fits_kind, dF_clause_fits, dF_fits, dF_is_referenced, dF_full_code, dF_add_check_code, dF_column_names, dF_lacks, dF_key_name, dF_add_unique_code, dF_column_called, dF_key_kind, dF_add_reference_code, dF_constraint_of, dF_drop_code, dF_limit_step_code, dF_step_code, dF_copy_description, dF_copy_schema, dF_limit_step_target, dF_changed_schema, dF_target_schema, dF_law_is_integer, dF_law_same_items, dF_law_same, dF_law, dF_StepError]
def faL0 : List He.Fa := [.glo "_law_tape", .glo "_law_take", .glo "_law_name", .glo "_law_table", .glo "_law_columns", .glo "_law_names", .glo "_law_integer", .glo "_law_char", .glo "_law_text", .glo "_law_value", .glo "_law_clause", .glo "_law_condition", .glo "_law_limits", .glo "_law_schema", .glo "_law_pick", .glo "_law_limit_step", .glo "_law_step", .glo "_law_copy", .glo "_law_condition_fits", .glo "_law_leads", .glo "_law_check", .glo "_law_found", .glo "_law_unique", .glo "_law_reference", .glo "_law_expected", .glo "kind_of", .glo "is_text_code", .glo "is_text_character", .glo "is_text", .glo "is_value", .glo "fits_kind", .glo "clause_fits", .glo "fits", .glo "is_referenced", .glo "full_code", .glo "add_check_code", .glo "column_names", .glo "lacks", .glo "key_name", .glo "add_unique_code"]
def faL1 : List He.Fa := [.glo "column_called", .glo "key_kind", .glo "add_reference_code", .glo "constraint_of", .glo "drop_code", .glo "limit_step_code", .glo "step_code", .glo "copy_description", .glo "copy_schema", .glo "limit_step_target", .glo "changed_schema", .glo "target_schema", .glo "_law_is_integer", .glo "_law_same_items", .glo "_law_same", .glo "law", .glo "StepError", .glo "COLUMN_KINDS", .glo "TABLE_KINDS", .glo "GROUP_KINDS", .keep "_law_tape", .keep "_law_take", .keep "_law_name", .keep "_law_table", .keep "_law_columns", .keep "_law_names", .keep "_law_integer", .keep "_law_char", .keep "_law_text", .keep "_law_value", .keep "_law_clause", .keep "_law_condition", .keep "_law_limits", .keep "_law_schema", .keep "_law_pick", .keep "_law_limit_step", .keep "_law_step", .keep "_law_copy", .keep "_law_condition_fits", .keep "_law_leads"]
def faL2 : List He.Fa := [.keep "_law_check", .keep "_law_found", .keep "_law_unique", .keep "_law_reference", .keep "_law_expected", .keep "kind_of", .keep "is_text_code", .keep "is_text_character", .keep "is_text", .keep "is_value", .keep "fits_kind", .keep "clause_fits", .keep "fits", .keep "is_referenced", .keep "full_code", .keep "add_check_code", .keep "column_names", .keep "lacks", .keep "key_name", .keep "add_unique_code", .keep "column_called", .keep "key_kind", .keep "add_reference_code", .keep "constraint_of", .keep "drop_code", .keep "limit_step_code", .keep "step_code", .keep "copy_description", .keep "copy_schema", .keep "limit_step_target", .keep "changed_schema", .keep "target_schema", .keep "_law_is_integer", .keep "_law_same_items", .keep "_law_same", .keep "law", .free "abs", .free "int", .free "len", .free "range"]
def faL3 : List He.Fa := [.free "list", .free "str", .free "tuple", .free "sorted", .free "isinstance", .free "dict", .free "ord", .free "all", .free "bool", .free "any", .int "PERCENT_CODE" 37, .int "LAST_CODE" 126, .int "FIRST_CODE" 32, .int "MOST_CHARACTERS" 30, .int "GREATEST" 999999999, .int "LEAST" (-999999999), .int "MOST_LIMITS" 4]
def faL : List He.Fa := faL0 ++ (faL1 ++ (faL2 ++ (faL3
)))
def exL (K : PySem.W.Frag) : Bool := errB K "StepError" "code" "index" && (He.tupB K "COLUMN_KINDS" [.str "rename_column", .str "reorder", .str "add_column", .str "drop_column", .str "convert", .str "split_column", .str "merge_columns"] && (He.tupB K "TABLE_KINDS" [.str "rename_table", .str "create_table", .str "drop_table", .str "decompose", .str "recompose", .str "partition", .str "union", .str "move"] && (He.tupB K "GROUP_KINDS" [.str "extract", .str "inline"] && (true))))
abbrev RR : PySem.W.OpenRow := PySem.W.OpenLaw.row PySem.Challenge.rw_lenstree_k14_limit_step_schemas
def namesL0 : List PySem.Str := [PySem.Str.ofString "_law_tape", PySem.Str.ofString "_law_take", PySem.Str.ofString "_law_name", PySem.Str.ofString "_law_table", PySem.Str.ofString "_law_columns", PySem.Str.ofString "_law_names", PySem.Str.ofString "_law_integer", PySem.Str.ofString "_law_char", PySem.Str.ofString "_law_text", PySem.Str.ofString "_law_value", PySem.Str.ofString "_law_clause", PySem.Str.ofString "_law_condition", PySem.Str.ofString "_law_limits", PySem.Str.ofString "_law_schema", PySem.Str.ofString "_law_pick", PySem.Str.ofString "_law_limit_step", PySem.Str.ofString "_law_step", PySem.Str.ofString "_law_copy", PySem.Str.ofString "_law_condition_fits", PySem.Str.ofString "_law_leads", PySem.Str.ofString "_law_check", PySem.Str.ofString "_law_found", PySem.Str.ofString "_law_unique", PySem.Str.ofString "_law_reference", PySem.Str.ofString "_law_expected", PySem.Str.ofString "kind_of", PySem.Str.ofString "is_text_code", PySem.Str.ofString "is_text_character", PySem.Str.ofString "is_text", PySem.Str.ofString "is_value", PySem.Str.ofString "fits_kind", PySem.Str.ofString "clause_fits", PySem.Str.ofString "fits", PySem.Str.ofString "is_referenced", PySem.Str.ofString "full_code", PySem.Str.ofString "add_check_code", PySem.Str.ofString "column_names", PySem.Str.ofString "lacks", PySem.Str.ofString "key_name", PySem.Str.ofString "add_unique_code"]
def namesL1 : List PySem.Str := [PySem.Str.ofString "column_called", PySem.Str.ofString "key_kind", PySem.Str.ofString "add_reference_code", PySem.Str.ofString "constraint_of", PySem.Str.ofString "drop_code", PySem.Str.ofString "limit_step_code", PySem.Str.ofString "step_code", PySem.Str.ofString "copy_description", PySem.Str.ofString "copy_schema", PySem.Str.ofString "limit_step_target", PySem.Str.ofString "changed_schema", PySem.Str.ofString "target_schema", PySem.Str.ofString "_law_is_integer", PySem.Str.ofString "_law_same_items", PySem.Str.ofString "_law_same", PySem.Str.ofString "law", PySem.Str.ofString "COLUMN_KINDS", PySem.Str.ofString "TABLE_KINDS", PySem.Str.ofString "GROUP_KINDS"]
def adsL : (Addr → Option Obj) → List Addr := asL (namesL0 ++ (namesL1)) [PySem.Str.ofString "StepError"]
abbrev hkL : PySem.W.Hook := hookL adsL faL fnL exL
def obN (s : PySem.W.SharedT) : He.Al × Bool := obL adsL faL fnL exL (HandSHeadRun.getT s)
theorem obN_eq (s : PySem.W.SharedT) : obN s = hkL.obs s.abs := obL_eq (HandSHeadRun.getT_eq s)
def looseL0 : List PySem.Str := [PySem.Str.ofString "LEAST", PySem.Str.ofString "GREATEST", PySem.Str.ofString "MOST_CHARACTERS", PySem.Str.ofString "KINDS", PySem.Str.ofString "FIRST_CODE", PySem.Str.ofString "LAST_CODE", PySem.Str.ofString "PERCENT_CODE", PySem.Str.ofString "is_text_code", PySem.Str.ofString "is_text_character", PySem.Str.ofString "is_text", PySem.Str.ofString "is_separator", PySem.Str.ofString "is_value", PySem.Str.ofString "kind_of", PySem.Str.ofString "fits_kind", PySem.Str.ofString "clause_fits", PySem.Str.ofString "fits", PySem.Str.ofString "mentions", PySem.Str.ofString "renamed_clause", PySem.Str.ofString "renamed", PySem.Str.ofString "StoreError", PySem.Str.ofString "StepError", PySem.Str.ofString "MOST_TABLES", PySem.Str.ofString "MOST_COLUMNS", PySem.Str.ofString "MOST_LIMITS", PySem.Str.ofString "MOST_LETTERS", PySem.Str.ofString "FIRST_LETTERS", PySem.Str.ofString "LETTERS", PySem.Str.ofString "is_name", PySem.Str.ofString "has_twice", PySem.Str.ofString "column_names", PySem.Str.ofString "column_called", PySem.Str.ofString "are_columns", PySem.Str.ofString "copy_description", PySem.Str.ofString "copy_schema", PySem.Str.ofString "is_used", PySem.Str.ofString "is_referenced", PySem.Str.ofString "lacks", PySem.Str.ofString "key_name", PySem.Str.ofString "key_kind", PySem.Str.ofString "uses_one"]
def looseL1 : List PySem.Str := [PySem.Str.ofString "has_limits", PySem.Str.ofString "free_code", PySem.Str.ofString "new_table_code", PySem.Str.ofString "bare_description", PySem.Str.ofString "with_columns", PySem.Str.ofString "with_table", PySem.Str.ofString "without_table", PySem.Str.ofString "chosen_columns", PySem.Str.ofString "other_columns", PySem.Str.ofString "joined_columns", PySem.Str.ofString "can_be_joined", PySem.Str.ofString "vanishing_code", PySem.Str.ofString "new_column_code", PySem.Str.ofString "rename_column_code", PySem.Str.ofString "reorder_code", PySem.Str.ofString "add_column_code", PySem.Str.ofString "drop_column_code", PySem.Str.ofString "convert_code", PySem.Str.ofString "are_texts", PySem.Str.ofString "split_column_code", PySem.Str.ofString "merge_columns_code", PySem.Str.ofString "replaced", PySem.Str.ofString "rename_column_target", PySem.Str.ofString "reorder_target", PySem.Str.ofString "add_column_target", PySem.Str.ofString "drop_column_target", PySem.Str.ofString "convert_target", PySem.Str.ofString "split_column_target", PySem.Str.ofString "merge_columns_target", PySem.Str.ofString "CODES_column_steps", PySem.Str.ofString "TARGETS_column_steps", PySem.Str.ofString "column_step_code", PySem.Str.ofString "column_step_target", PySem.Str.ofString "extract_code", PySem.Str.ofString "inline_code", PySem.Str.ofString "extract_target", PySem.Str.ofString "inline_target", PySem.Str.ofString "group_step_code", PySem.Str.ofString "group_step_target", PySem.Str.ofString "COLUMN_KINDS"]
def looseL2 : List PySem.Str := [PySem.Str.ofString "TABLE_KINDS", PySem.Str.ofString "GROUP_KINDS", PySem.Str.ofString "full_code", PySem.Str.ofString "drop_code", PySem.Str.ofString "add_check_code", PySem.Str.ofString "add_unique_code", PySem.Str.ofString "add_reference_code", PySem.Str.ofString "constraint_of", PySem.Str.ofString "limit_step_code", PySem.Str.ofString "limit_step_target", PySem.Str.ofString "rename_table_code", PySem.Str.ofString "create_table_code", PySem.Str.ofString "drop_table_code", PySem.Str.ofString "decompose_code", PySem.Str.ofString "recompose_code", PySem.Str.ofString "partition_code", PySem.Str.ofString "union_code", PySem.Str.ofString "move_code", PySem.Str.ofString "references_renamed", PySem.Str.ofString "rename_table_target", PySem.Str.ofString "create_table_target", PySem.Str.ofString "drop_table_target", PySem.Str.ofString "decompose_target", PySem.Str.ofString "recompose_target", PySem.Str.ofString "partition_target", PySem.Str.ofString "union_target", PySem.Str.ofString "move_target", PySem.Str.ofString "CODES_table_steps", PySem.Str.ofString "TARGETS_table_steps", PySem.Str.ofString "table_step_code", PySem.Str.ofString "table_step_target", PySem.Str.ofString "step_code", PySem.Str.ofString "changed_schema", PySem.Str.ofString "target_schema", PySem.Str.ofString "_law_tape", PySem.Str.ofString "_law_take", PySem.Str.ofString "_law_is_integer", PySem.Str.ofString "_law_same_items", PySem.Str.ofString "_law_same", PySem.Str.ofString "_law_copy"]
def looseL3 : List PySem.Str := [PySem.Str.ofString "_law_char", PySem.Str.ofString "_law_text", PySem.Str.ofString "_law_integer", PySem.Str.ofString "_law_value", PySem.Str.ofString "_law_name", PySem.Str.ofString "_law_columns", PySem.Str.ofString "_law_table", PySem.Str.ofString "_law_names", PySem.Str.ofString "_law_clause", PySem.Str.ofString "_law_condition", PySem.Str.ofString "_law_limits", PySem.Str.ofString "_law_schema", PySem.Str.ofString "_law_pick", PySem.Str.ofString "_law_fresh", PySem.Str.ofString "_law_some", PySem.Str.ofString "_law_column_step", PySem.Str.ofString "_law_table_step", PySem.Str.ofString "_law_limit_step", PySem.Str.ofString "_law_step", PySem.Str.ofString "_law_is_name", PySem.Str.ofString "_law_used", PySem.Str.ofString "_law_leads", PySem.Str.ofString "_law_value_fits", PySem.Str.ofString "_law_condition_fits", PySem.Str.ofString "_law_found", PySem.Str.ofString "_law_blocked", PySem.Str.ofString "_law_check", PySem.Str.ofString "_law_unique", PySem.Str.ofString "_law_reference", PySem.Str.ofString "_law_expected"]
def looseL : List PySem.Str := looseL0 ++ (looseL1 ++ (looseL2 ++ (looseL3)))
theorem run_false (w : World) : HandSHeadRun.RunEq RR (PySem.W.view RR.prog [161]) hkL obN 20000 looseL (w.withFollow "special-get-raises" false) := by
  intro os
  kernel_rfl
theorem run_true (w : World) : HandSHeadRun.RunEq RR (PySem.W.view RR.prog [161]) hkL obN 20000 looseL (w.withFollow "special-get-raises" true) := by
  intro os
  kernel_rfl
theorem runL (w : World) : HandSHeadRun.RunEq RR (PySem.W.view RR.prog [161]) hkL obN 20000 looseL w := PySem.W.byRow2 "special-get-raises" (P := fun w => HandSHeadRun.RunEq RR (PySem.W.view RR.prog [161]) hkL obN 20000 looseL w) run_false run_true w
end Lt
namespace Lt
open PySem L2 TL
open C8 (pss_cut)
section
variable {P : Program} {w : World} {K : PySem.W.Frag} {mg : Str → Option Value} {base : Heap}
theorem init_StepError {C f : Addr} {fd : FuncData} (F : Fun K "__init__" "StepError.__init__" s_StepError f fd) : FnOk P w K mg base CX0 1 f fd ["self", "code", "index"] (spInit2 K C "code" "index") := by
  refine F.ok sc_StepError (fun vs H Q E h => ?_) (fun cdv A outer s H vs Q E hr h => ?_)
  · obtain ⟨a, u, v, rfl, _⟩ := h; rfl
  · obtain ⟨a, u, v, rfl, T, n1, n2, ea, q⟩ := h
    refine ⟨_, (pss_cons (ps_ost (pv 0) (pv 1)) (pss_one (ps_ost (pv 0) (pv 2)))), ?_⟩
    refine ⟨_, rfl, _, rfl, a, C, rfl, T, n1, .inl ⟨ea, fun dx hdx ne => ?_⟩⟩
    refine ⟨_, rfl, _, rfl, a, C, rfl, T, n2, .inr ⟨dx, _, upd_same, ?_, (by show 1 ≤ 900; decide), q dx hdx ne⟩⟩
    rw [upd_ne ne]; exact upd_same
theorem ok_law_tape {f : Addr} {fd : FuncData} (k : Kn K mg "_law_tape" s_law_tape ["script"] f fd) (z : Z K mg) :
    Cal P w K mg base 1 "_law_tape" ["script"] (spTape K) f fd := k.cal (by
  refine k.F.ok sc_law_tape (fun vs H Q E h => ?_) (fun cdv A outer s H vs Q E hr h => ?_)
  · obtain ⟨a, ns, rfl, _⟩ := h; rfl
  · obtain ⟨a, ns, rfl, hS, h63, q⟩ := h
    have hu := hu_of hr
    refine ⟨_, (pss_cons (ps_setLc (i := 2) (own := [("cell", 1)]) (g := gName 1) (tt := tYes) (by rfl) sc_law_tape.nd rfl rfl (sw_true rfl rfl rfl (by decide +kernel)) (pi_list (pv 0)) (blkOk_by (own := [("cell", 1)]) (N := ["script", "cell", "cells", "seed"]) (sc := defScope s_law_tape) (by decide +kernel)) (fun _ _ _ _ _ => pg_name (i := 1) sc_law_tape.nd rfl (Or.inl rfl)) (fun _ _ _ _ _ => pts_nil) (fun _ _ _ _ _ => (pe_callB call_abs (by rfl) z.abs (by decide +kernel) (pa_cons (pe_callTy call_int1 (by rfl) z.int (by decide +kernel) (pa_cons (pv 1) pa_nil)) pa_nil))))
        (pss_cons (ps_set (i := 3) sc_law_tape.nd rfl (Or.inl rfl) pe_int)
        (pss_cons (ps_for PassesOwn.never rfl (pi_list (pv 2)) (pg_name (i := 1) sc_law_tape.nd rfl (Or.inl rfl))
        (pss_one (ps_set (i := 3) sc_law_tape.nd rfl (Or.inl rfl) (pe_op op_mod (pe_callTy call_int1 (by rfl) z.int (by decide +kernel) (pa_cons (pe_op op_add (pe_op op_mul (pv 3) pe_int) (pv 1)) pa_nil)) pe_int))))
        (pss_one (ps_ret (pe_disp (pps_cons pe_str (pv 2) (pps_cons pe_str pe_int (pps_cons pe_str pe_int (pps_cons pe_str (pv 3) (pps_cons pe_str pe_int pps_nil))))) (by rfl) (by rfl) (fun z => by cases z) (by decide))))))), ?_⟩
    refine ⟨_, rfl, a, rfl, ⟨_, hS⟩, fun D hD => lc_list (K := K) (a := a) (xs := ns.map V.int) (fun i H' => ∃ cs : List Int, H' D = some (.lst (cs.map V.int)) ∧ cs.length = i ∧ (∀ x ∈ cs, (0 : Int) ≤ x) ∧ Same H H') ⟨[], upd_same, rfl, (by intro x hx; cases hx), same_new hD _⟩ (fun i H' _ ⟨_, _, _, _, s1⟩ => s1.seq hS) ?_ ?_⟩
    · rintro i x H1 hi ⟨cs, hc, hl, hn, s1⟩
      obtain ⟨z, rfl, hz⟩ := int_at hi
      have hi63 : i < ns.length := (List.getElem?_eq_some_iff.mp hz).1
      refine ⟨rfl, _, rfl, .inl ⟨z, rfl, z, rfl, _, hc, (by rw [List.length_map]; exact small1000 (by omega)), cs ++ [if z < 0 then -z else z], ?_, by simp [hl], ?_, same_upd hD _ s1⟩⟩
      · rw [upd_same, List.map_append]; rfl
      · intro y hy
        rcases List.mem_append.mp hy with hy | hy
        · exact hn y hy
        · rw [List.mem_singleton.mp hy]
          by_cases h0 : z < 0
          · rw [if_pos h0]; omega
          · rw [if_neg h0]; omega
    · rintro H1 ⟨cs, hc, hl, hn, s1⟩
      refine ⟨_, rfl, D, rfl, ⟨_, SqL.of hc⟩, for_list (K := K) (a := D) (xs := cs.map V.int) (fun i σ H2 => ∃ v s, σ = [some (.ref a), v, some (.ref D), some (.int s)] ∧ H2 = H1) ⟨none, 7, rfl, rfl⟩ (fun i σ H2 _ ⟨_, _, _, e⟩ => by rw [e]; exact SqL.of hc) ?_ ?_⟩
      · rintro i x σ H2 hi ⟨v, s, rfl, rfl⟩
        obtain ⟨z, rfl, hz⟩ := int_at hi
        refine ⟨_, rfl, _, _, rfl, rfl, .inr ⟨by decide, by decide⟩, _, rfl, _, _, rfl, rfl, .inl ⟨_, rfl, _, _, rfl, rfl, (by show (0 : Int) < 2147483647; decide), ?_⟩⟩
        exact ⟨_, _, rfl, rfl⟩
      · rintro σ H2 ⟨v, s, rfl, rfl⟩
        refine fun p hp => ⟨_, rfl, _, rfl, upd_same, tk D 0 0 s 0, rfl, (by show 5 ≤ 15; decide), ?_⟩
        have hp0 : H p = none := s1.free hp
        refine q p D cs _ ⟨⟨0, 0, s, 0, by rw [upd_same, merge_tk], Int.le_refl _, Int.le_refl _⟩, ?_, hn⟩ (same_upd hp0 _ (same_upd hp0 _ s1)) hp0
        rw [upd_ne (ne_of_none hc hp), upd_ne (ne_of_none hc hp)]
        exact hc)
theorem ok_law_take {f : Addr} {fd : FuncData} (k : Kn K mg "_law_take" s_law_take ["tape", "many"] f fd) (z : Z K mg) :
    Cal P w K mg base 1 "_law_take" ["tape", "many"] (spTake) f fd := k.cal (by
  refine k.F.ok sc_law_take (fun vs H Q E h => ?_) (fun cdv A outer s H vs Q E hr h => ?_)
  · obtain ⟨t, c, cs, many, rfl, _⟩ := h; rfl
  · obtain ⟨t, c, cs, many, rfl, T, h0, h9, q⟩ := h
    have hu := hu_of hr
    have cne : c ≠ t := T.ne
    obtain ⟨⟨a, l, s0, m, hd, ha, hl⟩, hc, hn⟩ := id T
    refine ⟨_, (pss_cut (ps_if (PW.pt (pw_and (pt_cmpR op_eq (pe_dget hu (pv 0) pe_str (fun _ _ => rfl)) pe_int (nomark _)) (pw_and1 (pt_cmpR op_lt (pe_dget hu (pv 0) pe_str (fun _ _ => rfl)) (pe_callB call_len_seq (by rfl) z.len (by decide +kernel) (pa_cons (pe_dget hu (pv 0) pe_str (fun _ _ => rfl)) pa_nil)) (nomark _))))) (pss_cons (ps_dput hu (pv 0) pe_str (pe_ix ix_list (pe_dget hu (pv 0) pe_str (fun _ _ => rfl)) (pe_dget hu (pv 0) pe_str (fun _ _ => rfl)) (fun _ _ => rfl)) rfl)
        (pss_one (ps_dput hu (pv 0) pe_str (pe_op op_add (pe_dget hu (pv 0) pe_str (fun _ _ => rfl)) pe_int) rfl))) pss_nil)
        (pss_cons (ps_if (pt_cmpR op_gt (pe_dget hu (pv 0) pe_str (fun _ _ => rfl)) pe_int (nomark _)) (pss_cons (ps_set (i := 2) sc_law_take.nd rfl (Or.inl rfl) (pe_op op_mod (pe_callTy call_int1 (by rfl) z.int (by decide +kernel) (pa_cons (pe_dget hu (pv 0) pe_str (fun _ _ => rfl)) pa_nil)) (pv 1)))
        (pss_cons (ps_dput hu (pv 0) pe_str (pe_op op_fdivW (pe_dget hu (pv 0) pe_str (fun _ _ => rfl)) (pv 1)) rfl)
        (pss_one (ps_ret (pv 2))))) pss_nil)
        (pss_cons (ps_dput hu (pv 0) pe_str (pe_op op_add (pe_dget hu (pv 0) pe_str (fun _ _ => rfl)) pe_int) rfl)
        (pss_cons (ps_set (i := 3) sc_law_take.nd rfl (Or.inl rfl) (pe_op op_mod (pe_callTy call_int1 (by rfl) z.int (by decide +kernel) (pa_cons (pe_op op_add (pe_op op_mul (pe_dget hu (pv 0) pe_str (fun _ _ => rfl)) pe_int) (pe_op op_mul (pe_dget hu (pv 0) pe_str (fun _ _ => rfl)) pe_int)) pa_nil)) pe_int))
        (pss_cons (ps_set (i := 3) sc_law_take.nd rfl (Or.inl rfl) (pe_op op_mod (pe_callTy call_int1 (by rfl) z.int (by decide +kernel) (pa_cons (pe_op op_add (pe_op op_add (pe_op op_mul (pv 3) (pv 3)) (pe_op op_mul (pe_dget hu (pv 0) pe_str (fun _ _ => rfl)) pe_int)) pe_int) pa_nil)) pe_int))
        (pss_one (ps_ret (pe_op op_mod (pe_callTy call_int1 (by rfl) z.int (by decide +kernel) (pa_cons (pv 3) pa_nil)) (pv 1))))))))), ?_⟩
    refine ⟨fun σ' H' => ∃ a l m : Int, σ' = [some (.ref t), some (.int many), none, none] ∧ H' t = some (.dK (tk c a l s0 m)) ∧ 0 ≤ a ∧ 0 ≤ l ∧ SameX t H H', ?_, ?_⟩
    · refine ⟨_, rfl, t, .int l, rfl, d_left hd, rfl, _, rfl, ?_⟩
      refine ite2 (fun e0 => ?_) (fun e0 => ?_)
      · refine ⟨_, rfl, t, .int a, rfl, d_at hd, _, rfl, t, .ref c, rfl, d_cells hd, c, _, rfl, .inl (SqL.of hc), _, _, rfl, rfl, _, rfl, ?_⟩
        refine ite2 (fun e1 => ?_) (fun e1 => ?_)
        · have e2 : a < (((cs.map V.int).length : Nat) : Int) := of_decide_eq_true e1
          rw [List.length_map] at e2
          have hk : a.toNat < cs.length := by omega
          have hat : atI (cs.map V.int) a = some (.int cs[a.toNat]) := at_of (j := a.toNat) (by omega) (by rw [List.getElem?_map, List.getElem?_eq_getElem hk]; rfl)
          have hx : 0 ≤ cs[a.toNat] := hn _ (List.getElem_mem hk)
          refine ⟨_, rfl, t, .ref c, rfl, d_cells hd, _, rfl, t, .int a, rfl, d_at hd, c, _, a, _, rfl, rfl, SqL.of hc, hat, _, rfl, t, _, rfl, p_left hd _, ?_⟩
          refine ⟨_, rfl, t, .int a, rfl, d_at upd_same, _, _, rfl, rfl, _, rfl, t, _, rfl, p_at upd_same _, ?_⟩
          exact ⟨a + 1, _, m, rfl, upd_same, by omega, hx, (SameX.upd _).trans (SameX.upd _)⟩
        · exact ⟨a, l, m, rfl, hd, ha, hl, SameX.refl _ _⟩
      · exact ⟨a, l, m, rfl, hd, ha, hl, SameX.refl _ _⟩
    · rintro σ1 H1 ⟨a, l, m, rfl, hd, ha, hl, S1⟩
      have hc1 : H1 c = some (.lst (cs.map V.int)) := S1 _ _ hc cne
      refine ⟨_, rfl, t, .int l, rfl, d_left hd, _, _, rfl, rfl, _, rfl, ?_⟩
      refine ite2 (fun e0 => ?_) (fun e0 => ?_)
      · refine ⟨_, rfl, t, .int l, rfl, d_left hd, .inl ⟨_, rfl, _, rfl, _, _, rfl, rfl, h0, ?_⟩⟩
        refine ⟨_, rfl, t, .int l, rfl, d_left hd, _, rfl, _, _, rfl, rfl, wide_div h0 h9 (by decide) (by decide), _, rfl, t, _, rfl, p_left hd _, ?_⟩
        refine ⟨_, rfl, ?_⟩
        refine q _ _ (Int.emod_nonneg _ (by omega)) (Int.emod_lt_of_pos _ h0) ⟨⟨a, _, s0, m, upd_same, ha, Int.ediv_nonneg hl (by omega)⟩, by rw [upd_ne cne]; exact hc1, hn⟩ (S1.trans (SameX.upd _))
      · refine ⟨_, rfl, t, .int m, rfl, d_salt hd, _, _, rfl, rfl, _, rfl, t, _, rfl, p_salt hd _, ?_⟩
        have hd2 : upd H1 t (.dK (tk c a l s0 (m + 1))) t = some (.dK (tk c a l s0 (m + 1))) := upd_same
        refine ⟨_, rfl, t, .int s0, rfl, d_seed hd2, _, _, rfl, rfl, .inr ⟨by decide, by decide⟩, _, rfl, t, .int _, rfl, d_salt hd2, _, _, rfl, rfl, .inr ⟨by decide, by decide⟩, _, _, rfl, rfl, .inl ⟨_, rfl, _, _, rfl, rfl, (by show (0 : Int) < 2147483647; decide), ?_⟩⟩
        generalize hmx : (s0 * 48271 + (m + 1) * 69621) % 2147483647 = mx
        have b1 : 0 ≤ mx := by rw [← hmx]; exact Int.emod_nonneg _ (by decide)
        have b2 : mx < 2147483647 := by rw [← hmx]; exact Int.emod_lt_of_pos _ (by decide)
        refine ⟨_, rfl, _, rfl, _, _, rfl, rfl, .inl ⟨by omega, by omega⟩, _, rfl, t, .int _, rfl, d_salt hd2, _, _, rfl, rfl, .inr ⟨by decide, by decide⟩, _, _, rfl, rfl, _, _, rfl, rfl, .inl ⟨_, rfl, _, _, rfl, rfl, (by show (0 : Int) < 2147483399; decide), ?_⟩⟩
        refine ⟨_, rfl, .inl ⟨_, rfl, _, rfl, _, _, rfl, rfl, h0, ?_⟩⟩
        exact q _ _ (Int.emod_nonneg _ (by omega)) (Int.emod_lt_of_pos _ h0) ⟨⟨a, l, s0, m + 1, hd2, ha, hl⟩, by rw [upd_ne cne]; exact hc1, hn⟩ (S1.trans (SameX.upd _)))

theorem lt_len : ("abcdefghijklmnopqrstuvwxyz" : Str).cps.toList.length = 26 := by decide +kernel
theorem lt_at : ∀ j : Nat, j < 26 → ("abcdefghijklmnopqrstuvwxyz" : Str).cps.toList[j]? = some (97 + j) := by decide +kernel
theorem lt_ok : ∀ ch ∈ ("abcdefghijklmnopqrstuvwxyz" : Str).cps.toList, 97 ≤ ch ∧ ch ≤ 122 := by decide +kernel
theorem sg_len : (("abcdefghijklmnopqrstuvwxyz" : Str) ++ ("0123456789_" : Str)).cps.toList.length = 37 := by decide +kernel
theorem sg_ok : ∀ ch ∈ (("abcdefghijklmnopqrstuvwxyz" : Str) ++ ("0123456789_" : Str)).cps.toList, nmCh ch := by decide +kernel
theorem ok_law_name {f : Addr} {fd : FuncData} (k : Kn K mg "_law_name" s_law_name ["tape", "used"] f fd) (z : Z K mg)
    {g_law_take : Addr} {gd_law_take : FuncData} (c_law_take : Cal P w K mg base 1 "_law_take" ["tape", "many"] (spTake) g_law_take gd_law_take) :
    Cal P w K mg base 2 "_law_name" ["tape", "used"] (spName) f fd := k.cal (by
  refine k.F.ok sc_law_name (fun vs H Q E h => ?_) (fun cdv A outer s H vs Q E hr h => ?_)
  · obtain ⟨t, c, u, cs, us, rfl, _⟩ := h; rfl
  · obtain ⟨t, c, u, cs, us, rfl, T, hu0, huc, hl, q⟩ := h
    have hut : u ≠ t := T.notL hu0
    refine ⟨_, (pss_cons (ps_set (i := 2) sc_law_name.nd rfl (Or.inl rfl) pe_str)
        (pss_cons (ps_set (i := 3) sc_law_name.nd rfl (Or.inr rfl) (pe_op op_add_str (pv 2) pe_str))
        (pss_cons (ps_set (i := 4) sc_law_name.nd rfl (Or.inl rfl) (pe_call c_law_take.G (hr.mono (by decide)) (by rfl) c_law_take.m c_law_take.kp c_law_take.b .nil pass0 (pa_cons (pv 0) (pa_cons pe_int pa_nil))))
        (pss_cut (ps_if (pt_cmpR op_eq (pe_call c_law_take.G (hr.mono (by decide)) (by rfl) c_law_take.m c_law_take.kp c_law_take.b .nil pass0 (pa_cons (pv 0) (pa_cons pe_int pa_nil))) pe_int (nomark _)) (pss_one (ps_set (i := 4) sc_law_name.nd rfl (Or.inl rfl) pe_int)) pss_nil)
        (pss_cons (ps_set (i := 6) sc_law_name.nd rfl (Or.inl rfl) (pe_op op_add_str (pe_ix ix_str (pv 2) (pe_call c_law_take.G (hr.mono (by decide)) (by rfl) c_law_take.m c_law_take.kp c_law_take.b .nil pass0 (pa_cons (pv 0) (pa_cons pe_int pa_nil))) (fun _ _ => rfl)) (pe_join pe_str (pe_lc (own := [("k", 5)]) (g := gName 5) (tt := tYes) (by rfl) sc_law_name.nd (pi_range1 (by rfl) z.range (pa_cons (pv 4) pa_nil)) (blkOk_by (own := [("k", 5)]) (N := ["tape", "used", "letters", "signs", "size", "k", "name"]) (sc := defScope s_law_name) (by decide +kernel)) (fun _ _ _ _ _ => pg_name (i := 5) sc_law_name.nd rfl (Or.inl rfl)) (fun _ _ _ _ _ => pts_nil) (fun _ _ _ _ _ => (pe_ix ix_str (pv 3) (pe_call c_law_take.G (hr.mono (by decide)) (by rfl) c_law_take.m c_law_take.kp c_law_take.b .nil pass0 (pa_cons (pv 0) (pa_cons pe_int pa_nil))) (fun _ _ => rfl)))))))
        (pss_cons (ps_for PassesOwn.never rfl (pi_range1 (by rfl) z.range (pa_cons pe_int pa_nil)) (pg_name (i := 5) sc_law_name.nd rfl (Or.inl rfl))
        (pss_one (ps_if (pt_cmpR op_in_seq (pv 6) (pv 1) (by rfl)) (pss_one (ps_set (i := 6) sc_law_name.nd rfl (Or.inl rfl) (pe_op op_add_str (pe_ix ix_str (pv 2) (pv 5) (fun _ _ => rfl)) (pe_slice sl_str (pv 6) po_none (po_some pe_int))))) pss_nil)))
        (pss_cons (ps_expr (pe_bm PySem.F.plainAttrs_list PySem.F.slot_list_append PySem.F.type_list_append mt_append (pv 1) (pa_cons (pv 6) pa_nil)))
        (pss_one (ps_ret (pv 6)))))))))), ?_⟩
    refine ⟨_, rfl, _, _, rfl, rfl, (by decide +kernel), ?_⟩
    refine ⟨_, rfl, t, c, cs, 4, rfl, T, by decide, by decide +kernel, fun d H1 d0 d1 T1 s1 => ?_⟩
    refine ⟨fun σ' H' => ∃ n : Int, σ' = [some (.ref t), some (.ref u), some (.str "abcdefghijklmnopqrstuvwxyz"), some (.str (("abcdefghijklmnopqrstuvwxyz" : Str) ++ ("0123456789_" : Str))), some (.int n), none, none] ∧ 0 ≤ n ∧ n ≤ 19 ∧ TapeAt H' t c cs ∧ SameX t H H', ?_, ?_⟩
    · refine ⟨_, rfl, t, c, cs, 9, rfl, T1, by decide, by decide +kernel, fun e H2 e0 e1 T2 s2 => ⟨rfl, _, rfl, ?_⟩⟩
      refine ifD (fun _ => ?_) (fun _ => ?_)
      · exact ⟨19, rfl, by decide, by decide, T2, s1.trans s2⟩
      · exact ⟨d, rfl, d0, by omega, T2, s1.trans s2⟩
    rintro σ2 H2 ⟨n, rfl, n0, n1, T2, s2⟩
    refine ⟨_, rfl, _, rfl, t, c, cs, 26, rfl, T2, by decide, by decide +kernel, fun e H3 e0 e1 T3 s3 => ?_⟩
    obtain ⟨ch0, h1, h2⟩ := at_in (xs := ("abcdefghijklmnopqrstuvwxyz" : Str).cps.toList) e0 (by rw [lt_len]; exact e1)
    refine ⟨_, _, ch0, rfl, rfl, (by decide +kernel), h1, ?_⟩
    refine ⟨⟨_, rfl⟩, _, rfl, n, rfl, by omega, by omega, fun D hD => lc_range (lo := 0) (n := n.toNat) (fun i H' => ∃ chs : List Nat, H' D = some (.lst ((chs.map one).map V.str)) ∧ chs.length = i ∧ (∀ x ∈ chs, nmCh x) ∧ TapeAt H' t c cs ∧ SameX t H3 H') ?_ ?_ ?_⟩
    · exact ⟨[], upd_same, rfl, (by intro x hx; cases hx), T3.mono (same_new hD _), SameX.of (same_new hD _)⟩
    · rintro i H4 hi ⟨chs, hc, hl', hn', T4, s4⟩
      have hDt := T3.fresh hD
      refine ⟨rfl, _, rfl, _, rfl, t, c, cs, 37, rfl, T4, by decide, by decide +kernel, fun g H5 g0 g1 T5 s5 => ?_⟩
      obtain ⟨ch, k1, k2⟩ := at_in (xs := (("abcdefghijklmnopqrstuvwxyz" : Str) ++ ("0123456789_" : Str)).cps.toList) g0 (by rw [sg_len]; exact g1)
      refine ⟨_, _, _, rfl, rfl, (by decide +kernel), k1, _, s5 _ _ hc hDt.1, (by rw [List.length_map, List.length_map]; exact small1000 (by omega)), chs ++ [ch], ?_, by simp [hl'], ?_, T5.upd hDt.1 hDt.2, samex_upd hD _ (s4.trans s5)⟩
      · rw [upd_same, List.map_append, List.map_append]; rfl
      · intro y hy
        rcases List.mem_append.mp hy with hy | hy
        · exact hn' y hy
        · rw [List.mem_singleton.mp hy]; exact sg_ok _ k2
    rintro H4 ⟨chs, hc, hl', hn', T4, s4⟩
    have hsum : ((chs.map one).map (·.length)).sum + (chs.map one).length * ("" : Str).length ≤ 16777216 := by
      have e0 : ("" : Str).length = 0 := by decide +kernel
      rw [sum_ones, e0, Nat.mul_zero]; omega
    have S4 : SameX t H H4 := s2.trans (s3.trans s4)
    have hu4 : H4 u = some (.lst (us.map V.str)) := S4 _ _ hu0 hut
    refine ⟨_, D, _, rfl, rfl, .inl (SqL.of hc), hsum, _, _, rfl, rfl, (by rw [len_joined]; exact Nat.le_of_lt (small1000 (by show 1 + _ ≤ _; omega))), ?_⟩
    have nz : nameOk (one ch0 ++ Txt.join ("" : Str) (chs.map one)) := by
      have et : tl (one ch0 ++ Txt.join ("" : Str) (chs.map one)) = ch0 :: chs := by rw [tl_append, tl_joined]; rfl
      refine ⟨?_, ⟨ch0, chs, et, lt_ok _ h2⟩, ?_⟩
      · rw [len_tl, et, List.length_cons]; omega
      · rw [et]
        intro x hx
        rcases List.mem_cons.mp hx with rfl | hx
        · have := lt_ok _ h2; unfold nmCh; omega
        · exact hn' x hx
    refine ⟨26, rfl, by decide, by decide, for_range (lo := 0) (n := 26) (fun i σ H' => ∃ v z, σ = [some (.ref t), some (.ref u), some (.str "abcdefghijklmnopqrstuvwxyz"), some (.str (("abcdefghijklmnopqrstuvwxyz" : Str) ++ ("0123456789_" : Str))), some (.int n), v, some (.str z)] ∧ H' = H4 ∧ nameOk z ∧ (z ∉ us ∨ Hit us i)) ⟨none, _, rfl, rfl, nz, .inr ⟨[], rfl, List.nodup_nil, fun v hv => by cases hv⟩⟩ ?_ ?_⟩
    · rintro i σ H' hi ⟨v, z0, rfl, rfl, nk, hit⟩
      refine ⟨_, rfl, _, rfl, u, _, rfl, .inl (SqL.of hu4), rfl, flat_strs us, _, rfl, ?_⟩
      show if inV (.str z0) (us.map V.str) = true then _ else _
      rw [inV_str]
      refine ifD (fun hin => ?_) (fun hout => ⟨_, z0, rfl, rfl, nk, .inl hout⟩)
      have hk : atI ("abcdefghijklmnopqrstuvwxyz" : Str).cps.toList (0 + (i : Int)) = some (97 + i) := at_ofN (z := 0 + (i : Int)) (j := i) (by omega) (lt_at i hi)
      have l1 := cutS_length z0 none (some 19)
      refine ⟨_, rfl, _, rfl, _, _, _, rfl, rfl, (by decide +kernel), hk, _, rfl, _, rfl, _, rfl, Nat.le_of_lt (small1000 (by have := nk.1; omega)), _, _, rfl, rfl, Nat.le_of_lt (small1000 (by show 1 + _ ≤ _; have := nk.1; omega)), ?_⟩
      have et : tl (one (97 + i) ++ cutS z0 none (some 19)) = (97 + i) :: tl (cutS z0 none (some 19)) := by rw [tl_append]; rfl
      have l2 : (cutS z0 none (some 19)).length ≤ 19 := by
        show (((z0.cps.toList.drop (HT.sIx z0.length 0 none)).take (HT.sIx z0.length z0.length (some 19) - HT.sIx z0.length 0 none)).toArray).size ≤ 19
        rw [List.size_toArray, List.length_take]
        have : HT.sIx z0.length z0.length (some 19) = min 19 z0.length := HT.sIx_nat _ _ 19
        rw [this]
        omega
      refine ⟨_, _, rfl, rfl, ⟨?_, ⟨97 + i, _, et, by omega, by omega⟩, ?_⟩, ?_⟩
      · rw [len_app]; show 1 + _ ≤ _; omega
      · show ∀ ch ∈ tl (one (97 + i) ++ cutS z0 none (some 19)), nmCh ch
        rw [et]
        intro x hx
        rcases List.mem_cons.mp hx with rfl | hx
        · unfold nmCh; omega
        · exact nk.2.2 x (cutS_sub _ hx)
      · rcases hit with hit | hit
        · exact absurd hin hit
        · exact hit.step et
    rintro σ H' ⟨v, z0, rfl, rfl, nk, hit⟩
    have hz0 : z0 ∉ us := by
      rcases hit with hit | hit
      · exact hit
      · exact absurd (hit.no (by omega)) (fun z => z)
    refine ⟨_, rfl, .inl ⟨rfl, _, SqL.of hu4⟩, _, rfl, u, _, _, rfl, rfl, hu4, (by rw [List.length_map]; exact small1000 (by omega)), ?_⟩
    refine ⟨_, rfl, ?_⟩
    refine q z0 _ nk hz0 (T4.upd hut huc.symm) ?_ (SameXY.updY _ (SameXY.ofX S4))
    rw [upd_same, List.map_append]
    rfl)
theorem ok_law_table {f : Addr} {fd : FuncData} (k : Kn K mg "_law_table" s_law_table ["columns"] f fd) (z : Z K mg) :
    Cal P w K mg base 1 "_law_table" ["columns"] (spTable) f fd := k.cal (by
  refine k.F.ok sc_law_table (fun vs H Q E h => ?_) (fun cdv A outer s H vs Q E hr h => ?_)
  · obtain ⟨L, cols, rfl, _⟩ := h; rfl
  · obtain ⟨L, cols, rfl, ⟨xs, hL, rL⟩, q⟩ := h
    refine ⟨_, (pss_one (ps_ret (pe_disp (pps_cons pe_str (pe_callTy call_list_of (by rfl) z.list (by decide +kernel) (pa_cons (pv 0) pa_nil)) (pps_cons pe_str (pe_lst pa_nil) (pps_cons pe_str (pe_lst pa_nil) (pps_cons pe_str (pe_lst pa_nil) pps_nil)))) (by rfl) (by rfl) (fun z => by cases z) (by decide)))), ?_⟩
    refine fun p hp => ?_
    have Lp : L ≠ p := ne_of_none hL hp
    refine ⟨_, rfl, L, xs, rfl, .inl (SqL.of (by rw [upd_ne Lp]; exact hL)), fun c hc => ⟨(by show 0 ≤ sizeLine; decide), fun k hk => ⟨(by show 0 ≤ sizeLine; decide), fun u hu => ⟨(by show 0 ≤ sizeLine; decide), fun r hr' => ?_⟩⟩⟩⟩
    have m1 := same_new hc (.lst xs)
    have m2 := same_new hk (.lst [])
    have m3 := same_new hu (.lst [])
    have m4 := same_new hr' (.lst [])
    have kp : (upd (upd (upd (upd (upd H p (.dK [])) c (.lst xs)) k (.lst [])) u (.lst [])) r (.lst [])) p = some (.dK []) := m4 _ _ (m3 _ _ (m2 _ _ (m1 _ _ upd_same)))
    have kc : (upd (upd (upd (upd (upd H p (.dK [])) c (.lst xs)) k (.lst [])) u (.lst [])) r (.lst [])) c = some (.lst xs) := m4 _ _ (m3 _ _ (m2 _ _ upd_same))
    have kk : (upd (upd (upd (upd (upd H p (.dK [])) c (.lst xs)) k (.lst [])) u (.lst [])) r (.lst [])) k = some (.lst []) := m4 _ _ (m3 _ _ upd_same)
    have ku : (upd (upd (upd (upd (upd H p (.dK [])) c (.lst xs)) k (.lst [])) u (.lst [])) r (.lst [])) u = some (.lst []) := m4 _ _ upd_same
    have kr : (upd (upd (upd (upd (upd H p (.dK [])) c (.lst xs)) k (.lst [])) u (.lst [])) r (.lst [])) r = some (.lst []) := upd_same
    have S5 : Same H (upd (upd (upd (upd (upd H p (.dK [])) c (.lst xs)) k (.lst [])) u (.lst [])) r (.lst [])) := (same_new hp _).trans (m1.trans (m2.trans (m3.trans m4)))
    have ckn : c ≠ k := ne_of_none upd_same hk
    have cun : c ≠ u := ne_of_none (m2 _ _ upd_same) hu
    have crn : c ≠ r := ne_of_none (m3 _ _ (m2 _ _ upd_same)) hr'
    have kun : k ≠ u := ne_of_none upd_same hu
    have krn : k ≠ r := ne_of_none (m3 _ _ upd_same) hr'
    have urn : u ≠ r := ne_of_none upd_same hr'
    have fr1 : H c = none := (same_new hp _).free hc
    have fr2 : H k = none := (same_new hp _).free (m1.free hk)
    have fr3 : H u = none := (same_new hp _).free (m1.free (m2.free hu))
    have fr4 : H r = none := (same_new hp _).free (m1.free (m2.free (m3.free hr')))
    generalize hH : (upd (upd (upd (upd (upd H p (.dK [])) c (.lst xs)) k (.lst [])) u (.lst [])) r (.lst [])) = H5 at *
    refine ⟨kp, descD ⟨p, c, k, u, r⟩, rfl, (by show 4 ≤ 15; decide), ?_⟩
    rw [merge_desc]
    have np : ∀ b, (∃ ys, H5 b = some (.lst ys)) → b ≠ p := fun b ⟨ys, e⟩ => ne_of e kp (by intro z; cases z)
    have kt : KeepT H (upd H5 p (.dK (descD ⟨p, c, k, u, r⟩))) := (KeepT.of S5).trans (KeepT.upd fun ys z => by rw [kp] at z; cases z)
    refine q ⟨p, c, k, u, r⟩ _ (fun n => ⟨upd_same, ⟨xs, by rw [upd_ne (np _ ⟨_, kc⟩)]; exact kc, rL.mono kt⟩, ⟨[], by rw [upd_ne (np _ ⟨_, kk⟩)]; exact kk, .nil⟩, by rw [upd_ne (np _ ⟨_, ku⟩)]; exact ku, ⟨[], by rw [upd_ne (np _ ⟨_, kr⟩)]; exact kr, .nil⟩⟩) (same_upd hp _ S5) hp ?_ ?_
    · intro b hb
      simp only [adL, List.mem_cons, List.not_mem_nil, or_false] at hb
      rcases hb with rfl | rfl | rfl | rfl
      · exact fr1
      · exact fr2
      · exact fr3
      · exact fr4
    · simp only [adL, List.nodup_cons, List.mem_cons, List.not_mem_nil, or_false, not_or, not_false_eq_true, List.nodup_nil, and_true]
      exact ⟨⟨ckn, cun, crn⟩, ⟨kun, krn⟩, urn⟩)
theorem ok_law_columns {f : Addr} {fd : FuncData} (k : Kn K mg "_law_columns" s_law_columns ["tape", "used", "many"] f fd) (z : Z K mg)
    {g_law_take : Addr} {gd_law_take : FuncData} (c_law_take : Cal P w K mg base 1 "_law_take" ["tape", "many"] (spTake) g_law_take gd_law_take)
    {g_law_name : Addr} {gd_law_name : FuncData} (c_law_name : Cal P w K mg base 2 "_law_name" ["tape", "used"] (spName) g_law_name gd_law_name) :
    Cal P w K mg base 3 "_law_columns" ["tape", "used", "many"] (spColumns) f fd := k.cal (by
  refine k.F.ok sc_law_columns (fun vs H Q E h => ?_) (fun cdv A outer s H vs Q E hr h => ?_)
  · obtain ⟨t, c, u, cs, us, m, rfl, _⟩ := h; rfl
  · obtain ⟨t, c, u, cs, us, m, rfl, T, hu0, huc, m0, m8, hl, q⟩ := h
    have hut : u ≠ t := T.notL hu0
    refine ⟨_, (pss_cons (ps_set (i := 3) sc_law_columns.nd rfl (Or.inl rfl) (pe_lst (pa_cons pe_str (pa_cons pe_str pa_nil))))
        (pss_cons (ps_set (i := 4) sc_law_columns.nd rfl (Or.inl rfl) (pe_lst (pa_cons (pe_tup (pa_cons (pe_call c_law_name.G (hr.mono (by decide)) (by rfl) c_law_name.m c_law_name.kp c_law_name.b .nil pass0 (pa_cons (pv 0) (pa_cons (pv 1) pa_nil))) (pa_cons (pe_ix ix_list (pv 3) (pe_call c_law_take.G (hr.mono (by decide)) (by rfl) c_law_take.m c_law_take.kp c_law_take.b .nil pass0 (pa_cons (pv 0) (pa_cons pe_int pa_nil))) (fun _ _ => rfl)) (pa_cons pe_bl pa_nil)))) pa_nil)))
        (pss_cons (ps_for PassesOwn.never rfl (pi_range1 (by rfl) z.range (pa_cons (pv 2) pa_nil)) (pg_name (i := 5) sc_law_columns.nd rfl (Or.inl rfl))
        (pss_one (ps_expr (pe_bm PySem.F.plainAttrs_list PySem.F.slot_list_append PySem.F.type_list_append mt_append (pv 4) (pa_cons (pe_tup (pa_cons (pe_call c_law_name.G (hr.mono (by decide)) (by rfl) c_law_name.m c_law_name.kp c_law_name.b .nil pass0 (pa_cons (pv 0) (pa_cons (pv 1) pa_nil))) (pa_cons (pe_ix ix_list (pv 3) (pe_call c_law_take.G (hr.mono (by decide)) (by rfl) c_law_take.m c_law_take.kp c_law_take.b .nil pass0 (pa_cons (pv 0) (pa_cons pe_int pa_nil))) (fun _ _ => rfl)) (pa_cons (pe_cmpR op_eq (pe_call c_law_take.G (hr.mono (by decide)) (by rfl) c_law_take.m c_law_take.kp c_law_take.b .nil pass0 (pa_cons (pv 0) (pa_cons pe_int pa_nil))) pe_int (nomark _)) pa_nil)))) pa_nil)))))
        (pss_one (ps_ret (pv 4)))))), ?_⟩
    refine ⟨(by show 2 ≤ sizeLine; decide), fun KL hKL => ?_⟩
    have TK := T.mono (same_new hKL (.lst [.str "int", .str "text"]))
    have fK := T.fresh hKL
    have uK : u ≠ KL := ne_of_none hu0 hKL
    have kinds : ∀ {d : Int}, 0 ≤ d → d < 2 → ∃ k : Str, atI [V.str ("int" : Str), V.str ("text" : Str)] d = some (.str k) ∧ (k = ("int" : Str) ∨ k = ("text" : Str)) := fun d0 d1 => by
      obtain ⟨v, h1, h2⟩ := at_in (xs := [V.str ("int" : Str), V.str ("text" : Str)]) d0 (by simpa using d1)
      simp only [List.mem_cons, List.not_mem_nil, or_false] at h2
      rcases h2 with rfl | rfl
      · exact ⟨_, h1, .inl rfl⟩
      · exact ⟨_, h1, .inr rfl⟩
    refine ⟨_, rfl, _, rfl, t, c, u, cs, us, rfl, TK, (by rw [upd_ne uK]; exact hu0), huc, by omega, fun n1 H1 nk1 nf1 T1 hu1 s1 => ?_⟩
    have hK1 := s1 _ _ upd_same fK.1 uK.symm
    refine ⟨_, rfl, _, rfl, t, c, cs, 2, rfl, T1, by decide, by decide +kernel, fun d H2 d0 d1 T2 s2 => ?_⟩
    obtain ⟨k1, a1, b1⟩ := kinds d0 d1
    refine ⟨KL, _, d, _, rfl, rfl, SqL.of (s2 _ _ hK1 fK.1), a1, (by show 3 ≤ sizeLine; decide), fun p hp => ⟨(by show 1 ≤ sizeLine; decide), fun L hL => ?_⟩⟩
    have S2 : SameXY t u H H2 := (SameXY.of (same_new hKL _)).trans (s1.trans (SameXY.ofX s2))
    have hu2 : H2 u = some (.lst ((us ++ [n1]).map V.str)) := s2 _ _ hu1 hut
    have hK2 := s2 _ _ hK1 fK.1
    have e2 : Same H2 (upd (upd H2 p (.tup [.str n1, .str k1, .bl false])) L (.lst [.ref p])) := (same_new hp _).trans (same_new hL _)
    have hLt := (T2.mono (same_new hp (.tup [.str n1, .str k1, .bl false]))).fresh hL
    have uL : u ≠ L := ne_of_none (same_new hp _ _ _ hu2) hL
    have KLL : KL ≠ L := ne_of_none (same_new hp _ _ _ hK2) hL
    have hL2 : H2 L = none := by
      cases e : H2 L with
      | none => rfl
      | some o => have := same_new hp (.tup [.str n1, .str k1, .bl false]) _ _ e; rw [hL] at this; cases this
    have hL0 : H L = none := by
      cases e : H L with
      | none => rfl
      | some o => have := S2 _ _ e hLt.1 uL.symm; rw [hL2] at this; cases this
    refine ⟨_, rfl, m, rfl, by omega, by omega, for_range (lo := 0) (n := m.toNat) (fun i σ H' => ∃ v cols xs, σ = [some (.ref t), some (.ref u), some (.int m), some (.ref KL), some (.ref L), v] ∧ H' L = some (.lst xs) ∧ TpL H' xs (cols.map colD) ∧ cols.length = i + 1 ∧ ColsOk us cols ∧ TapeAt H' t c cs ∧ H' u = some (.lst ((us ++ colNs cols).map V.str)) ∧ H' KL = some (.lst [.str "int", .str "text"]) ∧ SameXY t u H H') ?_ ?_ ?_⟩
    · refine ⟨none, [⟨n1, k1, false⟩], [.ref p], rfl, upd_same, .cons (col_mk (by rw [upd_ne (ne_of_none upd_same hL)]; exact upd_same)) .nil, rfl, ⟨?_, ?_, ?_, ?_⟩, T2.mono e2, e2 _ _ hu2, e2 _ _ hK2, S2.trans (SameXY.of e2)⟩
      · show ([n1] : List Str).Nodup; simp
      · intro n hn
        have : n = n1 := by simpa [colNs] using hn
        subst this
        exact ⟨nf1, nk1⟩
      · intro cc hc
        have : cc = ⟨n1, k1, false⟩ := by simpa using hc
        subst this
        exact b1
      · intro cc hc
        have : cc = ⟨n1, k1, false⟩ := by simpa using hc.symm
        subst this
        rfl
    · rintro i σ H3 hi ⟨v, cols, xs, rfl, h3, r3, l3, C3, T3, u3, K3, s3⟩
      have hlen : (us ++ colNs cols).length ≤ 25 := by rw [List.length_append]; unfold colNs; rw [List.length_map]; omega
      refine ⟨_, rfl, .inl ⟨rfl, _, SqL.of h3⟩, ?_⟩
      refine ⟨_, rfl, _, rfl, t, c, u, cs, us ++ colNs cols, rfl, T3, u3, huc, hlen, fun n4 H4 nk4 nf4 T4 hu4 s4 => ?_⟩
      have h4 := s4 _ _ h3 (T3.notL h3) uL.symm
      have K4 := s4 _ _ K3 fK.1 uK.symm
      have r4 := r3.mono (KeepT.ofXY T3 u3 s4)
      refine ⟨_, rfl, _, rfl, t, c, cs, 2, rfl, T4, by decide, by decide +kernel, fun d H5 d0 d1 T5 s5 => ?_⟩
      obtain ⟨k5, a5, b5⟩ := kinds d0 d1
      have K5 := s5 _ _ K4 fK.1
      refine ⟨KL, _, d, _, rfl, rfl, SqL.of K5, a5, ?_⟩
      refine ⟨_, rfl, t, c, cs, 2, rfl, T5, by decide, by decide +kernel, fun e H6 e0 e1 T6 s6 => ?_⟩
      have s46 : SameXY t u H3 H6 := s4.trans ((SameXY.ofX s5).trans (SameXY.ofX s6))
      have h6 := s6 _ _ (s5 _ _ h4 (T3.notL h3)) (T3.notL h3)
      have u6 := s6 _ _ (s5 _ _ hu4 hut) hut
      have K6 := s6 _ _ K5 fK.1
      have r6 := (r4.mono (KeepT.ofX T4 s5)).mono (KeepT.ofX T5 s6)
      refine ⟨rfl, (by show 3 ≤ sizeLine; decide), fun p6 hp6 => ?_⟩
      have m7 := same_new hp6 (.tup [.str n4, .str k5, .bl (decide (V.int e = V.int 1))])
      have nL : L ≠ p6 := ne_of_none h6 hp6
      refine ⟨L, xs, _, rfl, rfl, m7 _ _ h6, (by rw [r3.length, List.length_map]; exact small1000 (by omega)), ?_⟩
      have ku : KeepT (upd H6 p6 (.tup [.str n4, .str k5, .bl (decide (V.int e = V.int 1))])) (upd (upd H6 p6 (.tup [.str n4, .str k5, .bl (decide (V.int e = V.int 1))])) L (.lst (xs ++ [.ref p6]))) := KeepT.upd (fun ys z => by rw [m7 _ _ h6] at z; cases z)
      refine ⟨_, cols ++ [⟨n4, k5, decide (V.int e = V.int 1)⟩], xs ++ [.ref p6], rfl, upd_same, ?_, by simp [l3], ⟨?_, ?_, ?_, ?_⟩, (T6.mono m7).upd (T3.notL h3) (fun z => by subst z; exact hLt.2 rfl), ?_, ?_, ?_⟩
      · rw [List.map_append]
        exact TpL.snoc ((r6.mono (KeepT.of m7)).mono ku) (col_mk (ku _ _ upd_same))
      · unfold colNs
        rw [List.map_append]
        refine List.nodup_append.mpr ⟨C3.nd, by simp, ?_⟩
        intro a ha b hb
        have : b = n4 := by simpa using hb
        subst this
        rintro rfl
        exact nf4 (List.mem_append.mpr (.inr ha))
      · intro n hn
        unfold colNs at hn
        rw [List.map_append] at hn
        rcases List.mem_append.mp hn with hn | hn
        · exact C3.fr n hn
        · have : n = n4 := by simpa using hn
          subst this
          exact ⟨fun z => nf4 (List.mem_append.mpr (.inl z)), nk4⟩
      · intro cc hc
        rcases List.mem_append.mp hc with hc | hc
        · exact C3.kd cc hc
        · have : cc = ⟨n4, k5, decide (V.int e = V.int 1)⟩ := by simpa using hc
          subst this
          exact b5
      · intro cc hc
        rw [List.getElem?_append_left (by omega)] at hc
        exact C3.hd cc hc
      · have ec : colNs (cols ++ [⟨n4, k5, decide (V.int e = V.int 1)⟩]) = colNs cols ++ [n4] := by unfold colNs; rw [List.map_append]; rfl
        rw [upd_ne uL, m7 _ _ u6, ec, List.append_assoc]
      · rw [upd_ne KLL]; exact m7 _ _ K6
      · exact samexy_upd hL0 _ (s3.trans (s46.trans (SameXY.of m7)))
    · rintro σ H3 ⟨v, cols, xs, rfl, h3, r3, l3, C3, T3, u3, K3, s3⟩
      exact ⟨_, rfl, q L cols xs H3 hL0 h3 r3 (by omega) C3 T3 u3 s3⟩)
theorem ok_law_names {f : Addr} {fd : FuncData} (k : Kn K mg "_law_names" s_law_names ["columns"] f fd) (z : Z K mg) :
    Cal P w K mg base 1 "_law_names" ["columns"] (spNames) f fd := k.cal (by
  refine k.F.ok sc_law_names (fun vs H Q E h => ?_) (fun cdv A outer s H vs Q E hr h => ?_)
  · obtain ⟨L, cols, rfl, _⟩ := h; rfl
  · obtain ⟨L, cols, rfl, C, hl, q⟩ := h
    refine ⟨_, (pss_one (ps_ret (pe_lc (own := [("column", 1)]) (g := gName 1) (tt := tYes) (by rfl) sc_law_names.nd (pi_list (pv 0)) (blkOk_by (own := [("column", 1)]) (N := ["columns", "column"]) (sc := defScope s_law_names) (by decide +kernel)) (fun _ _ _ _ _ => pg_name (i := 1) sc_law_names.nd rfl (Or.inl rfl)) (fun _ _ _ _ _ => pts_nil) (fun _ _ _ _ _ => (pe_ix (r := rIxT K) ix_tup (pv 1) pe_int (fun _ _ => rfl)))))), ?_⟩
    obtain ⟨xs, h1, h2⟩ := id C
    have hx : xs.length = cols.length := by rw [h2.length, List.length_map]
    refine ⟨_, rfl, L, rfl, ⟨_, SqL.of h1⟩, fun D hD => lc_list (K := K) (a := L) (xs := xs) (fun i H' => H' D = some (.lst (((colNs cols).take i).map V.str)) ∧ Same H H') ⟨upd_same, same_new hD _⟩ (fun i H' _ hh => SqL.of (hh.2 _ _ h1)) ?_ ?_⟩
    · rintro i x H1 hi ⟨hD1, s1⟩
      have hil : i < cols.length := by rw [← hx]; exact (List.getElem?_eq_some_iff.mp hi).1
      obtain ⟨xs', a, k1, k2, k3⟩ := C.get (List.getElem?_eq_getElem hil)
      rw [h1] at k1
      cases k1
      rw [hi] at k2
      cases k2
      refine ⟨rfl, _, rfl, a, _, 0, _, rfl, rfl, SqT.of (s1 _ _ k3), atI_nat (j := 0) rfl, _, hD1, (by rw [List.length_map, List.length_take]; exact small1000 (by omega)), ?_, same_upd hD _ s1⟩
      rw [upd_same, List.take_add_one]
      have : (colNs cols)[i]? = some cols[i].n := by unfold colNs; rw [List.getElem?_map, List.getElem?_eq_getElem hil]; rfl
      rw [this]
      simp
    · rintro H1 ⟨hD1, s1⟩
      have : (colNs cols).take xs.length = colNs cols := List.take_of_length_le (by unfold colNs; rw [List.length_map]; omega)
      rw [this] at hD1
      exact q D H1 hD s1 hD1)
theorem ok_law_integer {f : Addr} {fd : FuncData} (k : Kn K mg "_law_integer" s_law_integer ["tape"] f fd) (z : Z K mg)
    {g_law_take : Addr} {gd_law_take : FuncData} (c_law_take : Cal P w K mg base 1 "_law_take" ["tape", "many"] (spTake) g_law_take gd_law_take) :
    Cal P w K mg base 2 "_law_integer" ["tape"] (spDraw (isInt (-999999999) 999999999)) f fd := k.cal (by
  refine k.F.ok sc_law_integer (fun vs H Q E h => ?_) (fun cdv A outer s H vs Q E hr h => ?_)
  · obtain ⟨t, c, cs, rfl, _⟩ := h; rfl
  · obtain ⟨t, c, cs, rfl, T, q⟩ := h
    refine ⟨_, (pss_cons (ps_set (i := 1) sc_law_integer.nd rfl (Or.inl rfl) (pe_call c_law_take.G (hr.mono (by decide)) (by rfl) c_law_take.m c_law_take.kp c_law_take.b .nil pass0 (pa_cons (pv 0) (pa_cons pe_int pa_nil))))
        (pss_cons (ps_if (pt_cmpR op_eq (pv 1) pe_int (nomark _)) (pss_one (ps_ret (pe_op op_sub (pe_call c_law_take.G (hr.mono (by decide)) (by rfl) c_law_take.m c_law_take.kp c_law_take.b .nil pass0 (pa_cons (pv 0) (pa_cons pe_int pa_nil))) pe_int))) pss_nil)
        (pss_cons (ps_if (pt_cmpR op_eq (pv 1) pe_int (nomark _)) (pss_one (ps_ret (pe_ix ix_list (pe_lst (pa_cons pe_int (pa_cons (pe_un un_neg pe_int) (pa_cons pe_int (pa_cons pe_int pa_nil))))) (pe_call c_law_take.G (hr.mono (by decide)) (by rfl) c_law_take.m c_law_take.kp c_law_take.b .nil pass0 (pa_cons (pv 0) (pa_cons pe_int pa_nil))) (fun _ _ => rfl)))) pss_nil)
        (pss_cons (ps_if (pt_cmpR op_eq (pv 1) pe_int (nomark _)) (pss_one (ps_ret (pe_un un_neg (pe_call c_law_take.G (hr.mono (by decide)) (by rfl) c_law_take.m c_law_take.kp c_law_take.b .nil pass0 (pa_cons (pv 0) (pa_cons pe_int pa_nil)))))) pss_nil)
        (pss_one (ps_ret (pe_call c_law_take.G (hr.mono (by decide)) (by rfl) c_law_take.m c_law_take.kp c_law_take.b .nil pass0 (pa_cons (pv 0) (pa_cons pe_int pa_nil))))))))), ?_⟩
    refine ⟨_, rfl, t, c, cs, 8, rfl, T, by decide, by decide +kernel, fun d H1 d0 d1 T1 s1 => ?_⟩
    refine ⟨_, rfl, rfl, _, rfl, ?_⟩
    refine ifD (fun _ => ?_) (fun _ => ?_)
    · refine ⟨_, rfl, t, c, cs, 1999999999, rfl, T1, by decide, by decide +kernel, fun e H2 e0 e1 T2 s2 => ⟨_, _, rfl, rfl, ?_⟩⟩
      exact q _ H2 ⟨_, by omega, by omega, rfl⟩ T2 (s1.trans s2)
    refine ⟨_, rfl, rfl, _, rfl, ?_⟩
    refine ifD (fun _ => ?_) (fun _ => ?_)
    · refine ⟨_, rfl, (by show 4 ≤ sizeLine; decide), fun L hL => ?_⟩
      refine ⟨_, rfl, t, c, cs, 4, rfl, T1.mono (same_new hL _), by decide, by decide +kernel, fun e H2 e0 e1 T2 s2 => ?_⟩
      obtain ⟨v, h1, h2⟩ := at_in (xs := [V.int 999999999, V.int (-999999999), V.int 999999998, V.int 0]) e0 (by simpa using e1)
      obtain ⟨n, rfl, n0, n1⟩ : ∃ n : Int, v = V.int n ∧ -999999999 ≤ n ∧ n ≤ 999999999 := by
        simp only [List.mem_cons, List.not_mem_nil, or_false] at h2
        rcases h2 with rfl | rfl | rfl | rfl <;> exact ⟨_, rfl, by decide, by decide⟩
      refine ⟨L, _, e, _, rfl, rfl, SqL.of (s2 _ _ upd_same (T1.fresh hL).1), h1, ?_⟩
      exact q _ H2 ⟨n, n0, n1, rfl⟩ T2 (s1.trans ((SameX.of (same_new hL _)).trans s2))
    refine ⟨_, rfl, rfl, _, rfl, ?_⟩
    refine ifD (fun _ => ?_) (fun _ => ?_)
    · refine ⟨_, rfl, t, c, cs, 12, rfl, T1, by decide, by decide +kernel, fun e H2 e0 e1 T2 s2 => ⟨_, rfl, ?_⟩⟩
      exact q _ H2 ⟨_, by omega, by omega, rfl⟩ T2 (s1.trans s2)
    · refine ⟨_, rfl, t, c, cs, 6, rfl, T1, by decide, by decide +kernel, fun e H2 e0 e1 T2 s2 => ?_⟩
      exact q _ H2 ⟨_, by omega, by omega, rfl⟩ T2 (s1.trans s2))

theorem chars_len : (((" !\"#$&'()*+,-./0123456789:;<=>?@ABCDEFGHIJKLMNOPQRSTUVWXYZ[\\]^" : Str) ++ ("_`abcdefghijklmnopqrstuvwxyz{|}~" : Str)).cps.toList).length = 94 := by decide +kernel
theorem chars_ok : ∀ c ∈ ((" !\"#$&'()*+,-./0123456789:;<=>?@ABCDEFGHIJKLMNOPQRSTUVWXYZ[\\]^" : Str) ++ ("_`abcdefghijklmnopqrstuvwxyz{|}~" : Str)).cps.toList, chOk c := by decide +kernel
theorem few_len : ("ab -07" : Str).cps.toList.length = 6 := by decide +kernel
theorem few_ok : ∀ c ∈ ("ab -07" : Str).cps.toList, chOk c := by decide +kernel
theorem ok_law_char {f : Addr} {fd : FuncData} (k : Kn K mg "_law_char" s_law_char ["tape"] f fd) (z : Z K mg)
    {g_law_take : Addr} {gd_law_take : FuncData} (c_law_take : Cal P w K mg base 1 "_law_take" ["tape", "many"] (spTake) g_law_take gd_law_take) :
    Cal P w K mg base 2 "_law_char" ["tape"] (spDraw isChar) f fd := k.cal (by
  refine k.F.ok sc_law_char (fun vs H Q E h => ?_) (fun cdv A outer s H vs Q E hr h => ?_)
  · obtain ⟨t, c, cs, rfl, _⟩ := h; rfl
  · obtain ⟨t, c, cs, rfl, T, q⟩ := h
    refine ⟨_, (pss_cons (ps_set (i := 1) sc_law_char.nd rfl (Or.inl rfl) pe_str)
        (pss_cons (ps_set (i := 1) sc_law_char.nd rfl (Or.inl rfl) (pe_op op_add_str (pv 1) pe_str))
        (pss_cons (ps_if (pt_cmpR op_eq (pe_call c_law_take.G (hr.mono (by decide)) (by rfl) c_law_take.m c_law_take.kp c_law_take.b .nil pass0 (pa_cons (pv 0) (pa_cons pe_int pa_nil))) pe_int (nomark _)) (pss_one (ps_ret (pe_ix ix_str (pv 1) (pe_call c_law_take.G (hr.mono (by decide)) (by rfl) c_law_take.m c_law_take.kp c_law_take.b .nil pass0 (pa_cons (pv 0) (pa_cons pe_int pa_nil))) (fun _ _ => rfl)))) pss_nil)
        (pss_one (ps_ret (pe_ix ix_str pe_str (pe_call c_law_take.G (hr.mono (by decide)) (by rfl) c_law_take.m c_law_take.kp c_law_take.b .nil pass0 (pa_cons (pv 0) (pa_cons pe_int pa_nil))) (fun _ _ => rfl))))))), ?_⟩
    refine ⟨_, rfl, _, _, rfl, rfl, (by decide +kernel), ?_⟩
    refine ⟨_, rfl, t, c, cs, 3, rfl, T, by decide, by decide +kernel, fun d H1 d0 d1 T1 s1 => ⟨rfl, _, rfl, ?_⟩⟩
    refine ite2 (fun _ => ?_) (fun _ => ?_)
    · refine ⟨_, rfl, _, rfl, t, c, cs, 94, rfl, T1, by decide, by decide +kernel, fun e H2 e0 e1 T2 s2 => ?_⟩
      obtain ⟨ch, h1, h2⟩ := at_in (xs := ((" !\"#$&'()*+,-./0123456789:;<=>?@ABCDEFGHIJKLMNOPQRSTUVWXYZ[\\]^" : Str) ++ ("_`abcdefghijklmnopqrstuvwxyz{|}~" : Str)).cps.toList) e0 (by rw [chars_len]; exact e1)
      exact ⟨_, _, _, rfl, rfl, (by decide +kernel), h1, q _ H2 ⟨ch, chars_ok _ h2, rfl⟩ T2 (s1.trans s2)⟩
    · refine ⟨_, rfl, t, c, cs, 6, rfl, T1, by decide, by decide +kernel, fun e H2 e0 e1 T2 s2 => ?_⟩
      obtain ⟨ch, h1, h2⟩ := at_in (xs := ("ab -07" : Str).cps.toList) e0 (by rw [few_len]; exact e1)
      exact ⟨_, _, _, rfl, rfl, (by decide +kernel), h1, q _ H2 ⟨ch, few_ok _ h2, rfl⟩ T2 (s1.trans s2)⟩)
theorem ok_law_text {f : Addr} {fd : FuncData} (k : Kn K mg "_law_text" s_law_text ["tape"] f fd) (z : Z K mg)
    {g_law_take : Addr} {gd_law_take : FuncData} (c_law_take : Cal P w K mg base 1 "_law_take" ["tape", "many"] (spTake) g_law_take gd_law_take)
    {g_law_char : Addr} {gd_law_char : FuncData} (c_law_char : Cal P w K mg base 2 "_law_char" ["tape"] (spDraw isChar) g_law_char gd_law_char) :
    Cal P w K mg base 3 "_law_text" ["tape"] (spDraw (isText 30)) f fd := k.cal (by
  refine k.F.ok sc_law_text (fun vs H Q E h => ?_) (fun cdv A outer s H vs Q E hr h => ?_)
  · obtain ⟨t, c, cs, rfl, _⟩ := h; rfl
  · obtain ⟨t, c, cs, rfl, T, q⟩ := h
    have ht : ∃ o, H t = some o := by obtain ⟨_, _, _, _, e, _⟩ := T.dk; exact ⟨_, e⟩
    refine ⟨_, (pss_cons (ps_set (i := 1) sc_law_text.nd rfl (Or.inl rfl) (pe_call c_law_take.G (hr.mono (by decide)) (by rfl) c_law_take.m c_law_take.kp c_law_take.b .nil pass0 (pa_cons (pv 0) (pa_cons pe_int pa_nil))))
        (pss_cut (ps_if (pt_cmpR op_eq (pe_call c_law_take.G (hr.mono (by decide)) (by rfl) c_law_take.m c_law_take.kp c_law_take.b .nil pass0 (pa_cons (pv 0) (pa_cons pe_int pa_nil))) pe_int (nomark _)) (pss_one (ps_set (i := 1) sc_law_text.nd rfl (Or.inl rfl) (pe_op op_add pe_int (pe_call c_law_take.G (hr.mono (by decide)) (by rfl) c_law_take.m c_law_take.kp c_law_take.b .nil pass0 (pa_cons (pv 0) (pa_cons pe_int pa_nil)))))) pss_nil)
        (pss_one (ps_ret (pe_join pe_str (pe_lc (own := [("k", 2)]) (g := gName 2) (tt := tYes) (by rfl) sc_law_text.nd (pi_range1 (by rfl) z.range (pa_cons (pv 1) pa_nil)) (blkOk_by (own := [("k", 2)]) (N := ["tape", "size", "k"]) (sc := defScope s_law_text) (by decide +kernel)) (fun _ _ _ _ _ => pg_name (i := 2) sc_law_text.nd rfl (Or.inl rfl)) (fun _ _ _ _ _ => pts_nil) (fun _ _ _ _ _ => (pe_call c_law_char.G (hr.mono (by decide)) (by rfl) c_law_char.m c_law_char.kp c_law_char.b .nil pass0 (pa_cons (pv 0) pa_nil))))))))), ?_⟩
    refine ⟨_, rfl, t, c, cs, 6, rfl, T, by decide, by decide +kernel, fun d H1 d0 d1 T1 s1 => ?_⟩
    refine ⟨fun σ H' => ∃ n : Int, σ = [some (.ref t), some (.int n), none] ∧ 0 ≤ n ∧ n ≤ 30 ∧ TapeAt H' t c cs ∧ SameX t H H', ?_, ?_⟩
    · refine ⟨_, rfl, t, c, cs, 12, rfl, T1, by decide, by decide +kernel, fun e H2 e0 e1 T2 s2 => ⟨rfl, _, rfl, ?_⟩⟩
      refine ite2 (fun _ => ?_) (fun _ => ?_)
      · refine ⟨_, rfl, t, c, cs, 6, rfl, T2, by decide, by decide +kernel, fun g H3 g0 g1 T3 s3 => ⟨_, _, rfl, rfl, _, rfl, by omega, by omega, T3, s1.trans (s2.trans s3)⟩⟩
      · exact ⟨d, rfl, d0, by omega, T2, s1.trans s2⟩
    · rintro σ H2 ⟨n, rfl, n0, n1, T2, s2⟩
      refine ⟨⟨_, rfl⟩, _, rfl, n, rfl, by omega, by omega, fun D hD => lc_range (lo := 0) (n := n.toNat) (fun i H' => ∃ chs : List Nat, H' D = some (.lst ((chs.map one).map V.str)) ∧ chs.length = i ∧ (∀ x ∈ chs, chOk x) ∧ TapeAt H' t c cs ∧ SameX t H H' ∧ (∀ b o, H2 b = some o → b ≠ t → H' b = some o)) ?_ ?_ ?_⟩
      · exact ⟨[], upd_same, rfl, (by intro x hx; cases hx), T2.mono (same_new hD _), s2.trans (SameX.of (same_new hD _)), fun b o e _ => same_new hD _ b o e⟩
      · rintro i H3 hi ⟨chs, hc, hl, hn, T3, s3, s3'⟩
        have hDt : D ≠ t := by
          obtain ⟨_, _, _, _, e, _⟩ := T2.dk
          intro z; subst z; rw [hD] at e; cases e
        refine ⟨rfl, _, rfl, t, c, cs, rfl, T3, fun v H4 ⟨ch, hch, e⟩ T4 s4 => ?_⟩
        subst e
        refine ⟨_, s4 _ _ hc hDt, (by rw [List.length_map, List.length_map]; exact small1000 (by omega)), chs ++ [ch], ?_, by simp [hl], ?_, ?_, ?_, ?_⟩
        · rw [upd_same, List.map_append, List.map_append]; rfl
        · intro y hy
          rcases List.mem_append.mp hy with hy | hy
          · exact hn y hy
          · rw [List.mem_singleton.mp hy]; exact hch
        · obtain ⟨a, l, s, m, h1, h2, h3⟩ := T4.dk
          have hDc : c ≠ D := by
            intro z; subst z
            have h5 := T2.ls
            rw [hD] at h5; cases h5
          exact ⟨⟨a, l, s, m, by rw [upd_ne hDt.symm]; exact h1, h2, h3⟩, by rw [upd_ne hDc]; exact T4.ls, T4.nn⟩
        · intro b o e ne
          have hb : b ≠ D := by
            intro z; subst z
            have := s2 _ _ e ne
            rw [hD] at this; cases this
          rw [upd_ne hb]; exact s4 _ _ (s3 _ _ e ne) ne
        · intro b o e ne
          rw [upd_ne (ne_of_none e hD)]; exact s4 _ _ (s3' _ _ e ne) ne
      · rintro H3 ⟨chs, hc, hl, hn, T3, s3, _⟩
        have hsum : ((chs.map one).map (·.length)).sum + (chs.map one).length * ("" : Str).length ≤ 16777216 := by
          have e0 : ("" : Str).length = 0 := by decide +kernel
          rw [sum_ones, e0, Nat.mul_zero]; omega
        refine ⟨_, D, _, rfl, rfl, .inl (SqL.of hc), hsum, ?_⟩
        exact q _ H3 ⟨_, by rw [len_joined]; omega, by rw [tl_joined]; exact hn, rfl⟩ T3 s3)
theorem ok_law_value {f : Addr} {fd : FuncData} (k : Kn K mg "_law_value" s_law_value ["tape", "kind", "nullable"] f fd) (z : Z K mg)
    {g_law_take : Addr} {gd_law_take : FuncData} (c_law_take : Cal P w K mg base 1 "_law_take" ["tape", "many"] (spTake) g_law_take gd_law_take)
    {g_law_integer : Addr} {gd_law_integer : FuncData} (c_law_integer : Cal P w K mg base 2 "_law_integer" ["tape"] (spDraw (isInt (-999999999) 999999999)) g_law_integer gd_law_integer)
    {g_law_text : Addr} {gd_law_text : FuncData} (c_law_text : Cal P w K mg base 3 "_law_text" ["tape"] (spDraw (isText 30)) g_law_text gd_law_text) :
    Cal P w K mg base 4 "_law_value" ["tape", "kind", "nullable"] (spVal) f fd := k.cal (by
  refine k.F.ok sc_law_value (fun vs H Q E h => ?_) (fun cdv A outer s H vs Q E hr h => ?_)
  · obtain ⟨t, c, cs, kk, b, rfl, _⟩ := h; rfl
  · obtain ⟨t, c, cs, kk, b, rfl, T, q⟩ := h
    refine ⟨_, (pss_cut (ps_if (PW.pt (pw_and (pt_val (pv 2)) (pw_and1 (pt_cmpR op_eq (pe_call c_law_take.G (hr.mono (by decide)) (by rfl) c_law_take.m c_law_take.kp c_law_take.b .nil pass0 (pa_cons (pv 0) (pa_cons pe_int pa_nil))) pe_int (nomark _))))) (pss_one (ps_ret pe_non)) pss_nil)
        (pss_cons (ps_if (pt_cmpR op_eq (pv 1) pe_str (nomark _)) (pss_one (ps_ret (pe_call c_law_integer.G (hr.mono (by decide)) (by rfl) c_law_integer.m c_law_integer.kp c_law_integer.b .nil pass0 (pa_cons (pv 0) pa_nil)))) pss_nil)
        (pss_cons (ps_if (pt_cmpR op_eq (pe_call c_law_take.G (hr.mono (by decide)) (by rfl) c_law_take.m c_law_take.kp c_law_take.b .nil pass0 (pa_cons (pv 0) (pa_cons pe_int pa_nil))) pe_int (nomark _)) (pss_one (ps_ret (pe_op op_add_str (pe_ix ix_list (pe_lst (pa_cons pe_str (pa_cons pe_str (pa_cons pe_str (pa_cons pe_str pa_nil))))) (pe_call c_law_take.G (hr.mono (by decide)) (by rfl) c_law_take.m c_law_take.kp c_law_take.b .nil pass0 (pa_cons (pv 0) (pa_cons pe_int pa_nil))) (fun _ _ => rfl)) (pe_callTy call_str_int (by rfl) z.str (by decide +kernel) (pa_cons (pe_call c_law_integer.G (hr.mono (by decide)) (by rfl) c_law_integer.m c_law_integer.kp c_law_integer.b .nil pass0 (pa_cons (pv 0) pa_nil)) pa_nil))))) pss_nil)
        (pss_one (ps_ret (pe_call c_law_text.G (hr.mono (by decide)) (by rfl) c_law_text.m c_law_text.kp c_law_text.b .nil pass0 (pa_cons (pv 0) pa_nil))))))), ?_⟩
    refine ⟨fun σ' H' => σ' = [some (.ref t), some (.str kk), some (.bl b)] ∧ TapeAt H' t c cs ∧ SameX t H H', ?_, ?_⟩
    · refine ⟨_, rfl, b, rfl, ?_⟩
      cases b with
      | false => exact iteF ⟨rfl, T, SameX.refl _ _⟩
      | true =>
        refine iteT ⟨_, rfl, t, c, cs, 4, rfl, T, by decide, by decide +kernel, fun d H1 d0 d1 T1 s1 => ⟨rfl, _, rfl, ?_⟩⟩
        exact ifD (fun _ => q _ H1 (.inl ⟨rfl, rfl⟩) T1 s1) (fun _ => ⟨rfl, T1, s1⟩)
    rintro σ1 H1 ⟨rfl, T1, s1⟩
    refine ⟨_, rfl, rfl, _, rfl, ?_⟩
    refine ifD (fun hk => ?_) (fun hk => ?_)
    · refine ⟨_, rfl, t, c, cs, rfl, T1, fun v H2 hv T2 s2 => ?_⟩
      obtain ⟨i, i0, i1, rfl⟩ := hv
      exact q _ H2 (.inr (.inl ⟨V.str.inj hk, i, rfl, i0, i1⟩)) T2 (s1.trans s2)
    have hk' : kk ≠ ("int" : Str) := fun z => hk (congrArg V.str z)
    refine ⟨_, rfl, t, c, cs, 3, rfl, T1, by decide, by decide +kernel, fun d H2 d0 d1 T2 s2 => ⟨rfl, _, rfl, ?_⟩⟩
    refine ifD (fun _ => ?_) (fun _ => ?_)
    · refine ⟨(by show 4 ≤ sizeLine; decide), fun L hL => ?_⟩
      refine ⟨_, rfl, t, c, cs, 4, rfl, T2.mono (same_new hL _), by decide, by decide +kernel, fun e H3 e0 e1 T3 s3 => ?_⟩
      obtain ⟨v, h1, h2⟩ := at_in (xs := [V.str ("" : Str), V.str ("0" : Str), V.str ("-" : Str), V.str ("+" : Str)]) e0 (by simpa using e1)
      obtain ⟨y, rfl, hy, hyo⟩ : ∃ y : Str, v = V.str y ∧ y.length ≤ 1 ∧ ∀ c ∈ tl y, chOk c := by
        simp only [List.mem_cons, List.not_mem_nil, or_false] at h2
        rcases h2 with rfl | rfl | rfl | rfl
        · exact ⟨_, rfl, by decide +kernel, by decide +kernel⟩
        · exact ⟨_, rfl, by decide +kernel, by decide +kernel⟩
        · exact ⟨_, rfl, by decide +kernel, by decide +kernel⟩
        · exact ⟨_, rfl, by decide +kernel, by decide +kernel⟩
      refine ⟨L, _, e, _, rfl, rfl, SqL.of (s3 _ _ upd_same (T2.fresh hL).1), h1, ?_⟩
      refine ⟨_, rfl, t, c, cs, rfl, T3, fun v H4 hv T4 s4 => ?_⟩
      obtain ⟨i, i0, i1, rfl⟩ := hv
      obtain ⟨l1, l2⟩ := int_text i0 i1
      refine ⟨i, rfl, log_small i0 i1, _, _, rfl, rfl, Nat.le_of_lt (small1000 (by omega)), ?_⟩
      refine q _ H4 (.inr (.inr ⟨hk', _, rfl, by rw [len_app]; omega, fun ch hch => ?_⟩)) T4 (s1.trans (s2.trans ((SameX.of (same_new hL _)).trans (s3.trans s4))))
      rw [tl_append] at hch
      rcases List.mem_append.mp hch with hch | hch
      · exact hyo _ hch
      · exact digit_ok (l2 _ hch)
    · refine ⟨_, rfl, t, c, cs, rfl, T2, fun v H3 hv T3 s3 => ?_⟩
      obtain ⟨y, y0, y1, rfl⟩ := hv
      exact q _ H3 (.inr (.inr ⟨hk', y, rfl, y0, y1⟩)) T3 (s1.trans (s2.trans s3)))

theorem ops_cases {v : V} (h : v ∈ [V.str ("=" : Str), V.str ("!=" : Str), V.str ("<" : Str), V.str ("<=" : Str), V.str (">" : Str), V.str (">=" : Str), V.str ("null" : Str), V.str ("given" : Str)]) : ∃ o : Str, v = V.str o ∧ PyData.strOk o = true := by
  simp only [List.mem_cons, List.not_mem_nil, or_false] at h
  rcases h with rfl | rfl | rfl | rfl | rfl | rfl | rfl | rfl <;> exact ⟨_, rfl, by decide +kernel⟩
theorem ok_law_clause {f : Addr} {fd : FuncData} (k : Kn K mg "_law_clause" s_law_clause ["tape", "columns"] f fd) (z : Z K mg)
    {g_law_take : Addr} {gd_law_take : FuncData} (c_law_take : Cal P w K mg base 1 "_law_take" ["tape", "many"] (spTake) g_law_take gd_law_take)
    {g_law_value : Addr} {gd_law_value : FuncData} (c_law_value : Cal P w K mg base 4 "_law_value" ["tape", "kind", "nullable"] (spVal) g_law_value gd_law_value) :
    Cal P w K mg base 5 "_law_clause" ["tape", "columns"] (spClause) f fd := k.cal (by
  refine k.F.ok sc_law_clause (fun vs H Q E h => ?_) (fun cdv A outer s H vs Q E hr h => ?_)
  · obtain ⟨t, c, L, cs, cols, rfl, _⟩ := h; rfl
  · obtain ⟨t, c, L, cs, cols, rfl, T, C, hp0, hl, q⟩ := h
    refine ⟨_, (pss_cons (ps_set (i := 2) sc_law_clause.nd rfl (Or.inl rfl) (pe_ix ix_list (pv 1) (pe_call c_law_take.G (hr.mono (by decide)) (by rfl) c_law_take.m c_law_take.kp c_law_take.b .nil pass0 (pa_cons (pv 0) (pa_cons (pe_callB call_len_seq (by rfl) z.len (by decide +kernel) (pa_cons (pv 1) pa_nil)) pa_nil))) (fun _ _ => rfl)))
        (pss_cons (ps_set (i := 3) sc_law_clause.nd rfl (Or.inl rfl) (pe_ix ix_list (pe_lst (pa_cons pe_str (pa_cons pe_str (pa_cons pe_str (pa_cons pe_str (pa_cons pe_str (pa_cons pe_str (pa_cons pe_str (pa_cons pe_str pa_nil))))))))) (pe_call c_law_take.G (hr.mono (by decide)) (by rfl) c_law_take.m c_law_take.kp c_law_take.b .nil pass0 (pa_cons (pv 0) (pa_cons pe_int pa_nil))) (fun _ _ => rfl)))
        (pss_cons (ps_if (PW.pt (pw_or (pt_cmpR op_eq (pv 3) pe_str (nomark _)) (pw_or1 (pt_cmpR op_eq (pv 3) pe_str (nomark _))))) (pss_one (ps_ret (pe_tup (pa_cons (pe_ix ix_tup (pv 2) pe_int (fun _ _ => rfl)) (pa_cons (pv 3) (pa_cons pe_non pa_nil)))))) pss_nil)
        (pss_one (ps_ret (pe_tup (pa_cons (pe_ix ix_tup (pv 2) pe_int (fun _ _ => rfl)) (pa_cons (pv 3) (pa_cons (pe_call c_law_value.G (hr.mono (by decide)) (by rfl) c_law_value.m c_law_value.kp c_law_value.b .nil pass0 (pa_cons (pv 0) (pa_cons (pe_ix ix_tup (pv 2) pe_int (fun _ _ => rfl)) (pa_cons pe_bl pa_nil)))) pa_nil))))))))), ?_⟩
    obtain ⟨xs, h1, h2⟩ := id C
    have hx : xs.length = cols.length := by rw [h2.length, List.length_map]
    refine ⟨_, rfl, _, rfl, _, rfl, L, _, rfl, .inl (SqL.of h1), t, c, cs, (xs.length : Int), rfl, T, by omega, ?_, fun d H1 d0 d1 T1 s1 => ?_⟩
    · have b9 : (2 : Nat) ^ 9000 = 2 ^ 7 * 2 ^ 8993 := by rw [← Nat.pow_add]
      have b8 : 0 < (2 : Nat) ^ 8993 := Nat.pow_pos (by decide)
      rw [b9]
      have : ((xs.length : Int)).natAbs = xs.length := by omega
      omega
    have hd : d.toNat < cols.length := by omega
    obtain ⟨xs', a, k1, k2, k3⟩ := C.get (List.getElem?_eq_getElem hd)
    rw [h1] at k1
    cases k1
    have hLt := T.notL h1
    refine ⟨L, _, d, _, rfl, rfl, SqL.of (s1 _ _ h1 hLt), at_of (by omega) k2, ?_⟩
    refine ⟨(by show 8 ≤ sizeLine; decide), fun O hO => ?_⟩
    refine ⟨_, rfl, t, c, cs, 8, rfl, T1.mono (same_new hO _), by decide, by decide +kernel, fun e H2 e0 e1 T2 s2 => ?_⟩
    obtain ⟨v, g1, g2⟩ := at_in (xs := [V.str ("=" : Str), V.str ("!=" : Str), V.str ("<" : Str), V.str ("<=" : Str), V.str (">" : Str), V.str (">=" : Str), V.str ("null" : Str), V.str ("given" : Str)]) e0 (by simpa using e1)
    obtain ⟨op, rfl, hop⟩ := ops_cases g2
    refine ⟨O, _, e, _, rfl, rfl, SqL.of (s2 _ _ upd_same (T1.fresh hO).1), g1, ?_⟩
    have S2 : SameX t H H2 := s1.trans ((SameX.of (same_new hO _)).trans s2)
    have k4 := KeepT.ofX T S2 _ _ k3
    have hc : cols[d.toNat] ∈ cols := List.getElem_mem hd
    refine ⟨_, rfl, rfl, _, rfl, ?_⟩
    refine ifD (fun ho => ?_) (fun ho => ?_)
    · refine ⟨_, rfl, a, _, 0, _, rfl, rfl, SqT.of k4, atI_nat (j := 0) rfl, _, rfl, (by show 3 ≤ sizeLine; decide), fun p hp => ?_⟩
      exact q (.ref p) ⟨cols[d.toNat].n, op, .non⟩ _ (cl_mk upd_same rfl) ⟨hop, _, hc, rfl, .inl ⟨.inl (V.str.inj ho), rfl⟩⟩ (T2.mono (same_new hp _)) (S2.trans (SameX.of (same_new hp _)))
    refine ⟨_, rfl, rfl, _, rfl, ?_⟩
    refine ifD (fun ho2 => ?_) (fun ho2 => ?_)
    · refine ⟨_, rfl, a, _, 0, _, rfl, rfl, SqT.of k4, atI_nat (j := 0) rfl, _, rfl, (by show 3 ≤ sizeLine; decide), fun p hp => ?_⟩
      exact q (.ref p) ⟨cols[d.toNat].n, op, .non⟩ _ (cl_mk upd_same rfl) ⟨hop, _, hc, rfl, .inl ⟨.inr (V.str.inj ho2), rfl⟩⟩ (T2.mono (same_new hp _)) (S2.trans (SameX.of (same_new hp _)))
    · refine ⟨_, rfl, a, _, 0, _, rfl, rfl, SqT.of k4, atI_nat (j := 0) rfl, _, rfl, ?_⟩
      refine ⟨_, rfl, _, rfl, a, _, 1, _, rfl, rfl, SqT.of k4, atI_nat (j := 1) rfl, t, c, cs, _, _, rfl, T2, fun w H3 hw T3 s3 => ?_⟩
      refine ⟨(by show 3 ≤ sizeLine; decide), fun p hp => ?_⟩
      exact q (.ref p) ⟨cols[d.toNat].n, op, w⟩ _ (cl_mk upd_same hw.scal) ⟨hop, _, hc, rfl, .inr ⟨⟨fun z => ho (congrArg V.str z), fun z => ho2 (congrArg V.str z)⟩, hw⟩⟩ (T3.mono (same_new hp _)) (S2.trans (s3.trans (SameX.of (same_new hp _)))))

theorem five_a {d : Int} (d0 : 0 ≤ d) (d1 : d < 5) : ∃ n : Int, atI [V.int 1, V.int 0, V.int 2, V.int 1, V.int 4] d = some (.int n) ∧ 0 ≤ n ∧ n ≤ 4 := by
  obtain ⟨v, h1, h2⟩ := at_in (xs := [V.int 1, V.int 0, V.int 2, V.int 1, V.int 4]) d0 (by simpa using d1)
  simp only [List.mem_cons, List.not_mem_nil, or_false] at h2
  rcases h2 with rfl | rfl | rfl | rfl | rfl <;> exact ⟨_, h1, by decide, by decide⟩
theorem five_b {d : Int} (d0 : 0 ≤ d) (d1 : d < 5) : ∃ n : Int, atI [V.int 1, V.int 2, V.int 0, V.int 1, V.int 4] d = some (.int n) ∧ 0 ≤ n ∧ n ≤ 4 := by
  obtain ⟨v, h1, h2⟩ := at_in (xs := [V.int 1, V.int 2, V.int 0, V.int 1, V.int 4]) d0 (by simpa using d1)
  simp only [List.mem_cons, List.not_mem_nil, or_false] at h2
  rcases h2 with rfl | rfl | rfl | rfl | rfl <;> exact ⟨_, h1, by decide, by decide⟩
theorem ok_law_condition {f : Addr} {fd : FuncData} (k : Kn K mg "_law_condition" s_law_condition ["tape", "columns"] f fd) (z : Z K mg)
    {g_law_take : Addr} {gd_law_take : FuncData} (c_law_take : Cal P w K mg base 1 "_law_take" ["tape", "many"] (spTake) g_law_take gd_law_take)
    {g_law_clause : Addr} {gd_law_clause : FuncData} (c_law_clause : Cal P w K mg base 5 "_law_clause" ["tape", "columns"] (spClause) g_law_clause gd_law_clause) :
    Cal P w K mg base 6 "_law_condition" ["tape", "columns"] (spCond) f fd := k.cal (by
  refine k.F.ok sc_law_condition (fun vs H Q E h => ?_) (fun cdv A outer s H vs Q E hr h => ?_)
  · obtain ⟨t, c, L, cs, cols, rfl, _⟩ := h; rfl
  · obtain ⟨t, c, L, cs, cols, rfl, T, C, hp0, hl, q⟩ := h
    refine ⟨_, (pss_cons (ps_set (i := 2) sc_law_condition.nd rfl (Or.inl rfl) (pe_lst pa_nil))
        (pss_cons (ps_for PassesOwn.never rfl (pi_range1 (by rfl) z.range (pa_cons (pe_ix ix_list (pe_lst (pa_cons pe_int (pa_cons pe_int (pa_cons pe_int (pa_cons pe_int (pa_cons pe_int pa_nil)))))) (pe_call c_law_take.G (hr.mono (by decide)) (by rfl) c_law_take.m c_law_take.kp c_law_take.b .nil pass0 (pa_cons (pv 0) (pa_cons pe_int pa_nil))) (fun _ _ => rfl)) pa_nil)) (pg_name (i := 3) sc_law_condition.nd rfl (Or.inl rfl))
        (pss_cons (ps_set (i := 4) sc_law_condition.nd rfl (Or.inl rfl) (pe_ix ix_list (pe_lst (pa_cons pe_int (pa_cons pe_int (pa_cons pe_int (pa_cons pe_int (pa_cons pe_int pa_nil)))))) (pe_call c_law_take.G (hr.mono (by decide)) (by rfl) c_law_take.m c_law_take.kp c_law_take.b .nil pass0 (pa_cons (pv 0) (pa_cons pe_int pa_nil))) (fun _ _ => rfl)))
        (pss_one (ps_expr (pe_bm PySem.F.plainAttrs_list PySem.F.slot_list_append PySem.F.type_list_append mt_append (pv 2) (pa_cons (pe_callTy call_tuple_of (by rfl) z.tuple (by decide +kernel) (pa_cons (pe_lc (own := [("j", 5)]) (g := gName 5) (tt := tYes) (by rfl) sc_law_condition.nd (pi_range1 (by rfl) z.range (pa_cons (pv 4) pa_nil)) (blkOk_by (own := [("j", 5)]) (N := ["tape", "columns", "condition", "k", "many", "j"]) (sc := defScope s_law_condition) (by decide +kernel)) (fun _ _ _ _ _ => pg_name (i := 5) sc_law_condition.nd rfl (Or.inl rfl)) (fun _ _ _ _ _ => pts_nil) (fun _ _ _ _ _ => (pe_call c_law_clause.G (hr.mono (by decide)) (by rfl) c_law_clause.m c_law_clause.kp c_law_clause.b .nil pass0 (pa_cons (pv 0) (pa_cons (pv 1) pa_nil))))) pa_nil)) pa_nil))))))
        (pss_one (ps_ret (pe_callTy call_tuple_of (by rfl) z.tuple (by decide +kernel) (pa_cons (pv 2) pa_nil)))))), ?_⟩
    have hLt : L ≠ t := by obtain ⟨xs, h1, _⟩ := C; exact T.notL h1
    refine ⟨(by show 0 ≤ sizeLine; decide), fun R hR => ?_⟩
    have fR := T.fresh hR
    refine ⟨(by show 5 ≤ sizeLine; decide), fun A1 hA1 => ?_⟩
    have TA := (T.mono (same_new hR (.lst []))).mono (same_new hA1 (.lst [.int 1, .int 0, .int 2, .int 1, .int 4]))
    refine ⟨_, rfl, t, c, cs, 5, rfl, TA, by decide, by decide +kernel, fun d H1 d0 d1 T1 s1 => ?_⟩
    obtain ⟨n, hn, n0, n4⟩ := five_a d0 d1
    have fA := (T.mono (same_new hR (.lst []))).fresh hA1
    have RA : R ≠ A1 := ne_of_none upd_same hA1
    have R1 : H1 R = some (.lst []) := s1 _ _ (by rw [upd_ne RA]; exact upd_same) fR.1
    have S1 : SameX t H H1 := (SameX.of ((same_new hR _).trans (same_new hA1 _))).trans s1
    refine ⟨A1, _, d, _, rfl, rfl, SqL.of (s1 _ _ upd_same fA.1), hn, n, rfl, by omega, by omega, for_range (lo := 0) (n := n.toNat) (fun i σ H' => ∃ v3 v4 v5 xs, ∃ cond : Cond, σ = [some (.ref t), some (.ref L), some (.ref R), v3, v4, v5] ∧ H' R = some (.lst xs) ∧ TpL H' xs (cond.map altD) ∧ cond.length = i ∧ (∀ a ∈ cond, ∀ cl ∈ a, ClOk cols cl) ∧ (∀ a ∈ cond, a.length ≤ 4) ∧ TapeAt H' t c cs ∧ SameX t H H') ⟨none, none, none, [], [], rfl, R1, .nil, rfl, (fun a h => by cases h), (fun a h => by cases h), T1, S1⟩ ?_ ?_⟩
    · rintro i σ H2 hi ⟨v3, v4, v5, xs, cond, rfl, R2, r2, l2, k2, m2, T2, s2⟩
      refine ⟨(by show 5 ≤ sizeLine; decide), fun B hB => ?_⟩
      have e3 := same_new hB (.lst [.int 1, .int 2, .int 0, .int 1, .int 4])
      have fB := T2.fresh hB
      refine ⟨_, rfl, t, c, cs, 5, rfl, T2.mono e3, by decide, by decide +kernel, fun d H3 d0 d1 T3 s3 => ?_⟩
      obtain ⟨g, hg, g0, g4⟩ := five_b d0 d1
      refine ⟨B, _, d, _, rfl, rfl, SqL.of (s3 _ _ upd_same fB.1), hg, ?_⟩
      have S3 : SameX t H2 H3 := (SameX.of e3).trans s3
      have R3 := S3 _ _ R2 fR.1
      have r3 := r2.mono (KeepT.ofX T2 S3)
      have C3 := C.mono (KeepT.ofX T (s2.trans S3)) (fun o h => (s2.trans S3) _ _ h hLt)
      refine ⟨_, rfl, .inl ⟨rfl, _, SqL.of R3⟩, ?_⟩
      refine ⟨_, rfl, g, rfl, by omega, by omega, fun D hD => lc_range (lo := 0) (n := g.toNat) (fun j H' => ∃ ys, ∃ cls : List Cl, H' D = some (.lst ys) ∧ TpL H' ys (cls.map clD) ∧ cls.length = j ∧ (∀ cl ∈ cls, ClOk cols cl) ∧ TapeAt H' t c cs ∧ SameX t H3 H') ?_ ?_ ?_⟩
      · exact ⟨[], [], upd_same, .nil, rfl, (fun cl h => by cases h), T3.mono (same_new hD _), SameX.of (same_new hD _)⟩
      · rintro j H4 hj ⟨ys, cls, D4, r4, l4, k4, T4, s4⟩
        have fD := T3.fresh hD
        have C4 := C3.mono (KeepT.ofX T3 s4) (fun o h => s4 _ _ h hLt)
        refine ⟨rfl, _, rfl, _, rfl, t, c, L, cs, cols, rfl, T4, C4, hp0, hl, fun v cl H5 hv kcl T5 s5 => ?_⟩
        have D5 := s5 _ _ D4 fD.1
        refine ⟨ys, D5, (by rw [r4.length, List.length_map]; exact small1000 (by omega)), ys ++ [v], cls ++ [cl], upd_same, ?_, by simp [l4], ?_, T5.upd fD.1 fD.2, samex_upd hD _ (s4.trans s5)⟩
        · rw [List.map_append]
          have ku : KeepT H5 (upd H5 D (.lst (ys ++ [v]))) := KeepT.upd (fun zs z => by rw [D5] at z; cases z)
          exact TpL.snoc ((r4.mono (KeepT.ofX T4 s5)).mono ku) (hv.mono ku)
        · intro x hx
          rcases List.mem_append.mp hx with hx | hx
          · exact k4 x hx
          · rw [List.mem_singleton.mp hx]; exact kcl
      rintro H4 ⟨ys, cls, D4, r4, l4, k4, T4, s4⟩
      refine ⟨D, ys, rfl, .inl ⟨SqL.of D4, fun p hp => ?_⟩⟩
      have e5 := same_new hp (.tup ys)
      have R4 := s4 _ _ R3 fR.1
      have Rp : R ≠ p := ne_of_none R4 hp
      refine ⟨R, xs, _, rfl, rfl, e5 _ _ R4, (by rw [r2.length, List.length_map]; exact small1000 (by omega)), ?_⟩
      have ku : KeepT (upd H4 p (.tup ys)) (upd (upd H4 p (.tup ys)) R (.lst (xs ++ [.ref p]))) := KeepT.upd (fun zs z => by rw [e5 _ _ R4] at z; cases z)
      have S4 : SameX t H (upd H4 p (.tup ys)) := s2.trans (S3.trans (s4.trans (SameX.of e5)))
      refine ⟨_, _, _, xs ++ [.ref p], cond ++ [cls], rfl, upd_same, ?_, by simp [l2], ?_, ?_, (T4.mono e5).upd fR.1 fR.2, samex_upd hR _ S4⟩
      · rw [List.map_append]
        exact TpL.snoc (((r3.mono (KeepT.ofX T3 s4)).mono (KeepT.of e5)).mono ku) (.t (ku _ _ upd_same) ((r4.mono (KeepT.of e5)).mono ku))
      · intro a ha
        rcases List.mem_append.mp ha with ha | ha
        · exact k2 a ha
        · rw [List.mem_singleton.mp ha]; exact k4
      · intro a ha
        rcases List.mem_append.mp ha with ha | ha
        · exact m2 a ha
        · rw [List.mem_singleton.mp ha]; omega
    · rintro σ H2 ⟨v3, v4, v5, xs, cond, rfl, R2, r2, l2, k2, m2, T2, s2⟩
      refine ⟨_, rfl, R, xs, rfl, .inl ⟨SqL.of R2, fun p hp => ?_⟩⟩
      exact q (.ref p) cond _ (.t upd_same (r2.mono (KeepT.new hp _))) k2 (by omega) m2 (T2.mono (same_new hp _)) (s2.trans (SameX.of (same_new hp _))))

theorem four_a {d : Int} (d0 : 0 ≤ d) (d1 : d < 4) : ∃ n : Int, atI [V.int 0, V.int 0, V.int 1, V.int 2] d = some (.int n) ∧ 0 ≤ n ∧ n ≤ 2 := by
  obtain ⟨v, h1, h2⟩ := at_in (xs := [V.int 0, V.int 0, V.int 1, V.int 2]) d0 (by simpa using d1)
  simp only [List.mem_cons, List.not_mem_nil, or_false] at h2
  rcases h2 with rfl | rfl | rfl | rfl <;> exact ⟨_, h1, by decide, by decide⟩
theorem ok_law_limits {f : Addr} {fd : FuncData} (k : Kn K mg "_law_limits" s_law_limits ["tape", "schema", "table"] f fd) (z : Z K mg)
    {g_law_names : Addr} {gd_law_names : FuncData} (c_law_names : Cal P w K mg base 1 "_law_names" ["columns"] (spNames) g_law_names gd_law_names)
    {g_law_take : Addr} {gd_law_take : FuncData} (c_law_take : Cal P w K mg base 1 "_law_take" ["tape", "many"] (spTake) g_law_take gd_law_take)
    {g_law_condition : Addr} {gd_law_condition : FuncData} (c_law_condition : Cal P w K mg base 6 "_law_condition" ["tape", "columns"] (spCond) g_law_condition gd_law_condition) :
    Cal P w K mg base 7 "_law_limits" ["tape", "schema", "table"] (spLimits) f fd := k.cal (by
  refine k.F.ok sc_law_limits (fun vs H Q E h => ?_) (fun cdv A outer s H vs Q E hr h => ?_)
  · obtain ⟨t, c, S, cs, s, a, tab, rfl, _⟩ := h; rfl
  · obtain ⟨t, c, S, cs, s, a, tab, rfl, T, A, l6, hnk, hm, bare, q⟩ := h
    have hu := hu_of hr
    have htk : ∃ kvs, H t = some (.dK kvs) := by obtain ⟨_, _, _, _, e, _⟩ := T.dk; exact ⟨_, e⟩
    have D := A.ds _ hm
    obtain ⟨a1, a2, a3, a4⟩ := A.tS
    have hk0 : H a.k = some (.lst []) := by obtain ⟨xs, g1, g2⟩ := D.ch; rw [bare.c0] at g2; cases g2; exact g1
    have hu0 : H a.u = some (.lst []) := by have := D.un; rw [bare.u0] at this; exact this
    have hr0 : H a.r = some (.lst []) := by obtain ⟨xs, g1, g2⟩ := D.rf; rw [bare.r0] at g2; cases g2; exact g1
    have l5 := bare.l5
    have l0 := bare.l0
    have ck : a.k ≠ c := a4 _ hm _ (by simp [adL])
    have cu : a.u ≠ c := a4 _ hm _ (by simp [adL])
    have cr : a.r ≠ c := a4 _ hm _ (by simp [adL])
    have kt' : a.k ≠ t := T.notL hk0
    have ut' : a.u ≠ t := T.notL hu0
    have rt' : a.r ≠ t := T.notL hr0
    have lcn : (colNs tab.cols).length = tab.cols.length := by unfold colNs; rw [List.length_map]
    have ndA : (adL a).Nodup := (List.pairwise_flatMap.mp (List.nodup_cons.mp A.ln).2).1 _ hm
    simp only [adL, List.nodup_cons, List.mem_cons, List.not_mem_nil, or_false, not_or] at ndA
    obtain ⟨⟨n1, n2, n3⟩, ⟨n4, n5⟩, n6, _⟩ := ndA
    refine ⟨_, (pss_cons (ps_set (i := 3) sc_law_limits.nd rfl (Or.inl rfl) (pe_dget hu (pe_dget hu (pv 1) (pv 2) (fun _ _ => rfl)) pe_str (fun _ _ => rfl)))
        (pss_cons (ps_set (i := 4) sc_law_limits.nd rfl (Or.inl rfl) (pe_slice sl_list (pe_call c_law_names.G (hr.mono (by decide)) (by rfl) c_law_names.m c_law_names.kp c_law_names.b .nil pass0 (pa_cons (pv 3) pa_nil)) (po_some pe_int) po_none))
        (pss_cons (ps_setLc (i := 6) (own := [("name", 5)]) (g := gName 5) (by rfl) sc_law_limits.nd rfl rfl (sw_true rfl rfl rfl (by decide +kernel)) (pi_list (pe_callB (call_sortedD rfl) (by rfl) z.sorted (by decide +kernel) (pa_cons (pv 1) pa_nil))) (blkOk_by (own := [("name", 5)]) (N := ["tape", "schema", "table", "columns", "names", "name", "others", "k", "column", "other"]) (sc := defScope s_law_limits) (by decide +kernel)) (fun _ _ _ _ _ => pg_name (i := 5) sc_law_limits.nd rfl (Or.inl rfl)) (fun _ _ _ _ _ => (pts_one (pt_cmpR op_ne (pv 5) (pv 2) (nomark _)))) (fun _ _ _ _ _ => (pv 5)))
        (pss_cons (ps_for PassesOwn.never rfl (pi_range1 (by rfl) z.range (pa_cons (pe_ix ix_list (pe_lst (pa_cons pe_int (pa_cons pe_int (pa_cons pe_int (pa_cons pe_int pa_nil))))) (pe_call c_law_take.G (hr.mono (by decide)) (by rfl) c_law_take.m c_law_take.kp c_law_take.b .nil pass0 (pa_cons (pv 0) (pa_cons pe_int pa_nil))) (fun _ _ => rfl)) pa_nil)) (pg_name (i := 7) sc_law_limits.nd rfl (Or.inl rfl))
        (pss_one (ps_expr (pe_bm PySem.F.plainAttrs_list PySem.F.slot_list_append PySem.F.type_list_append mt_append (pe_dget hu (pe_dget hu (pv 1) (pv 2) (fun _ _ => rfl)) pe_str (fun _ _ => rfl)) (pa_cons (pe_call c_law_condition.G (hr.mono (by decide)) (by rfl) c_law_condition.m c_law_condition.kp c_law_condition.b .nil pass0 (pa_cons (pv 0) (pa_cons (pv 3) pa_nil))) pa_nil)))))
        (pss_cons (ps_for PassesOwn.never rfl (pi_list (pv 4)) (pg_name (i := 5) sc_law_limits.nd rfl (Or.inl rfl))
        (pss_one (ps_if (PW.pt (pw_and (pt_cmpR op_eq (pe_call c_law_take.G (hr.mono (by decide)) (by rfl) c_law_take.m c_law_take.kp c_law_take.b .nil pass0 (pa_cons (pv 0) (pa_cons pe_int pa_nil))) pe_int (nomark _)) (pw_and1 (pt_cmpR op_lt (pe_callB call_len_seq (by rfl) z.len (by decide +kernel) (pa_cons (pe_dget hu (pe_dget hu (pv 1) (pv 2) (fun _ _ => rfl)) pe_str (fun _ _ => rfl)) pa_nil)) pe_int (nomark _))))) (pss_one (ps_expr (pe_bm PySem.F.plainAttrs_list PySem.F.slot_list_append PySem.F.type_list_append mt_append (pe_dget hu (pe_dget hu (pv 1) (pv 2) (fun _ _ => rfl)) pe_str (fun _ _ => rfl)) (pa_cons (pv 5) pa_nil)))) pss_nil)))
        (pss_one (ps_for PassesOwn.never rfl (pi_list (pe_slice sl_list (pv 3) (po_some pe_int) po_none)) (pg_name (i := 8) sc_law_limits.nd rfl (Or.inl rfl))
        (pss_one (ps_if (PW.pt (pw_and (pt_cmpR (op_neD hr.units) (pv 6) (pe_lst pa_nil) (nomark _)) (pw_and (pt_cmpR op_eq (pe_call c_law_take.G (hr.mono (by decide)) (by rfl) c_law_take.m c_law_take.kp c_law_take.b .nil pass0 (pa_cons (pv 0) (pa_cons pe_int pa_nil))) pe_int (nomark _)) (pw_and1 (pt_cmpR op_lt (pe_callB call_len_seq (by rfl) z.len (by decide +kernel) (pa_cons (pe_dget hu (pe_dget hu (pv 1) (pv 2) (fun _ _ => rfl)) pe_str (fun _ _ => rfl)) pa_nil)) pe_int (nomark _)))))) (pss_cons (ps_set (i := 9) sc_law_limits.nd rfl (Or.inl rfl) (pe_ix ix_list (pv 6) (pe_call c_law_take.G (hr.mono (by decide)) (by rfl) c_law_take.m c_law_take.kp c_law_take.b .nil pass0 (pa_cons (pv 0) (pa_cons (pe_callB call_len_seq (by rfl) z.len (by decide +kernel) (pa_cons (pv 6) pa_nil)) pa_nil))) (fun _ _ => rfl)))
        (pss_one (ps_if (pt_cmpR op_eq (pe_ix ix_tup (pe_ix ix_list (pe_dget hu (pe_dget hu (pv 1) (pv 9) (fun _ _ => rfl)) pe_str (fun _ _ => rfl)) pe_int (fun _ _ => rfl)) pe_int (fun _ _ => rfl)) (pe_ix ix_tup (pv 8) pe_int (fun _ _ => rfl)) (nomark _)) (pss_one (ps_expr (pe_bm PySem.F.plainAttrs_list PySem.F.slot_list_append PySem.F.type_list_append mt_append (pe_dget hu (pe_dget hu (pv 1) (pv 2) (fun _ _ => rfl)) pe_str (fun _ _ => rfl)) (pa_cons (pe_tup (pa_cons (pe_ix ix_tup (pv 8) pe_int (fun _ _ => rfl)) (pa_cons (pv 9) pa_nil))) pa_nil)))) pss_nil))) pss_nil))))))))), ?_⟩
    refine ⟨_, rfl, _, rfl, S, _, rfl, A.desc hm, a.d, _, rfl, D.gc, ?_⟩
    refine ⟨_, rfl, a.c, tab.cols, rfl, D.co, by omega, fun N H1 hN0 s1 hN => ⟨_, rfl, N, _, rfl, SqL.of hN, fun NL hNL => ?_⟩⟩
    rw [cut_tail, ← List.map_drop]
    have e2 := same_new hNL (.lst (((colNs tab.cols).drop 1).map V.str))
    have S2 : Same H (upd H1 NL (.lst (((colNs tab.cols).drop 1).map V.str))) := s1.trans e2
    refine ⟨_, rfl, S, schK s, schN s, rfl, .inl (S2 _ _ A.sk), sch_keys s, (by unfold schN; rw [List.length_map]; omega), fun ys P hper _ hP => ?_⟩
    have e3 := same_new hP (.lst (ys.map V.str))
    have ly : ys.length ≤ 6 := by rw [hper.length_eq]; unfold schN; rw [List.length_map]; exact l6
    refine ⟨P, rfl, ⟨_, SqL.of upd_same⟩, fun OL hOL => inner walk_list (fun i H' => ∃ os : List Str, H' OL = some (.lst (os.map V.str)) ∧ (∀ o ∈ os, o ∈ schN s ∧ o ≠ tab.n) ∧ os.length ≤ i ∧ Same (upd (upd H1 NL (.lst (((colNs tab.cols).drop 1).map V.str))) P (.lst (ys.map V.str))) H') ⟨[], upd_same, (by intro o ho; cases ho), Nat.le_refl _, same_new hOL _⟩ (fun i H' _ ⟨_, _, _, _, s⟩ => SqL.of (s _ _ upd_same)) ?_ ?_⟩
    · rintro i x H4 H4' hi ⟨os, h1, h2, h3, h4⟩ ⟨rfl, ex⟩
      obtain ⟨z, hz, rfl⟩ : ∃ z, z ∈ ys ∧ x = V.str z := by
        obtain ⟨z, h1, h2⟩ := List.mem_map.mp (List.mem_of_getElem? ex)
        exact ⟨z, h1, h2.symm⟩
      refine ⟨rfl, _, rfl, _, rfl, rfl, _, rfl, ?_⟩
      refine ifN (fun hne => ?_) (fun _ => ⟨os, h1, h2, by omega, h4⟩)
      rw [List.length_map] at hi
      refine ⟨_, rfl, _, h1, (by rw [List.length_map]; exact small1000 (by omega)), os ++ [z], by rw [upd_same, List.map_append]; rfl, ?_, by rw [List.length_append, List.length_singleton]; omega, same_upd hOL _ h4⟩
      intro o ho
      rcases List.mem_append.mp ho with ho | ho
      · exact h2 o ho
      · rw [List.mem_singleton.mp ho]
        exact ⟨hper.mem_iff.mp hz, fun e => hne (congrArg V.str e)⟩
    rintro H4 ⟨os, ol, ho, lo, s4⟩
    have lo6 : os.length ≤ 6 := by rw [List.length_map] at lo; omega
    have S4 : Same H H4 := S2.trans (e3.trans s4)
    have hNL4 : H4 NL = some (.lst (((colNs tab.cols).drop 1).map V.str)) := s4 _ _ (e3 _ _ upd_same)
    have L4 : Lim H H4 t c cs a OL os [] [] [] := ⟨T.mono S4, KeepT.of S4, SameE.of S4, ol, ⟨[], S4 _ _ hk0, .nil⟩, S4 _ _ hu0, ⟨[], S4 _ _ hr0, .nil⟩⟩
    have fresh : ∀ {b : Addr}, H b = none → b ≠ a.k ∧ b ≠ a.u ∧ b ≠ a.r ∧ b ≠ t := fun h => ⟨(ne_of_none hk0 h).symm, (ne_of_none hu0 h).symm, (ne_of_none hr0 h).symm, by obtain ⟨_, e⟩ := htk; exact (ne_of_none e h).symm⟩
    have fNL : H NL = none := s1.free hNL
    have fOL : H OL = none := (S2.trans e3).free hOL
    obtain ⟨x1, x2, x3, x4⟩ := fresh fNL
    obtain ⟨y1, y2, y3, y4⟩ := fresh fOL
    -- the checks
    refine ⟨(by show 4 ≤ sizeLine; decide), fun M hM => ?_⟩
    have e5 := same_new hM (.lst [.int 0, .int 0, .int 1, .int 2])
    refine ⟨_, rfl, t, c, cs, 4, rfl, L4.T.mono e5, by decide, by decide +kernel, fun d H6 d0 d1 T6 s6 => ?_⟩
    obtain ⟨n, hn, m0, m2⟩ := four_a d0 d1
    have L6 := (L4.step e5).stepX T6 s6
    have hNL6 := s6 _ _ (e5 _ _ hNL4) x4
    refine ⟨M, _, d, _, rfl, rfl, SqL.of (s6 _ _ upd_same (L4.T.fresh hM).1), hn, n, rfl, by omega, by omega, for_range (lo := 0) (n := n.toNat) (fun i σ H' => ∃ v5 v7, ∃ conds : List Cond, σ = [some (.ref t), some (.ref S), some (.str tab.n), some (.ref a.c), some (.ref NL), v5, some (.ref OL), v7, none, none] ∧ Lim H H' t c cs a OL os conds [] [] ∧ conds.length = i ∧ (∀ cd ∈ conds, cd.length ≤ 4 ∧ ∀ x ∈ cd, x.length ≤ 4 ∧ ∀ cl ∈ x, ClOk tab.cols cl) ∧ H' NL = some (.lst (((colNs tab.cols).drop 1).map V.str))) ⟨_, _, [], rfl, L6, rfl, (by intro x hx; cases hx), hNL6⟩ ?_ ?_⟩
    · rintro i σ H7 hi ⟨v5, v7, conds, rfl, L7, l7, k7, N7⟩
      obtain ⟨g1, g2, g3, g4, g5, g6, _⟩ := L7.see A hm htk
      obtain ⟨xs, c1, c2⟩ := L7.ch
      refine ⟨_, rfl, _, rfl, S, _, rfl, g1, a.d, _, rfl, g3, .inl ⟨rfl, _, SqL.of c1⟩, ?_⟩
      refine ⟨_, rfl, _, rfl, t, c, a.c, cs, tab.cols, rfl, L7.T, g6, by omega, by omega, fun v cond H8 hv kc lc mc T8 s8 => ?_⟩
      have L8 := L7.stepX T8 s8
      have c8 := s8 _ _ c1 kt'
      have r8 := c2.mono (KeepT.ofX L7.T s8)
      refine ⟨a.k, xs, v, rfl, rfl, c8, (by rw [c2.length, List.length_map]; exact small1000 (by omega)), ?_⟩
      have ku : KeepT H8 (upd H8 a.k (.lst (xs ++ [v]))) := KeepT.upd (fun zs z => by rw [c8] at z; cases z)
      obtain ⟨ys', r1, r2⟩ := L8.rf
      refine ⟨_, _, conds ++ [cond], rfl, ⟨T8.upd kt' ck.symm, L8.kt.trans ku, SameE.upd (by simp) _ L8.se, by rw [upd_ne y1]; exact L8.ol, ⟨xs ++ [v], upd_same, ?_⟩, by rw [upd_ne (Ne.symm n4)]; exact L8.un, ⟨ys', by rw [upd_ne (Ne.symm n5)]; exact r1, r2.mono ku⟩⟩, by rw [List.length_append, List.length_singleton, l7], ?_, by rw [upd_ne x1]; exact s8 _ _ N7 x4⟩
      · rw [List.map_append]
        exact TpL.snoc (r8.mono ku) (hv.mono ku)
      · intro x hx
        rcases List.mem_append.mp hx with hx | hx
        · exact k7 x hx
        · rw [List.mem_singleton.mp hx]
          exact ⟨lc, fun y hy => ⟨mc y hy, kc y hy⟩⟩
    rintro σ H7 ⟨v5, v7, conds, rfl, L7, l7, k7, N7⟩
    -- the uniques
    refine ⟨_, rfl, NL, rfl, ⟨_, SqL.of N7⟩, for_it walk_list (fun j σ H' => ∃ v5, ∃ un : List Str, σ = [some (.ref t), some (.ref S), some (.str tab.n), some (.ref a.c), some (.ref NL), v5, some (.ref OL), v7, none, none] ∧ Lim H H' t c cs a OL os conds un [] ∧ un.length ≤ 4 ∧ un.Nodup ∧ (∀ x ∈ un, x ∈ ((colNs tab.cols).drop 1).take j) ∧ H' NL = some (.lst (((colNs tab.cols).drop 1).map V.str))) ⟨v5, [], rfl, L7, by decide, List.nodup_nil, (by intro x hx; cases hx), N7⟩ (fun j σ H' _ ⟨_, _, _, _, _, _, _, e⟩ => SqL.of e) ?_ ?_⟩
    · rintro j x σ H8 H8' hj ⟨v5, un, rfl, L8, l8, nd8, k8, N8⟩ ⟨rfl, ex⟩
      rw [List.length_map] at hj
      obtain ⟨z, hz, rfl⟩ : ∃ z, ((colNs tab.cols).drop 1)[j]? = some z ∧ x = V.str z := by
        rw [List.getElem?_map] at ex
        cases e : ((colNs tab.cols).drop 1)[j]? with
        | none => rw [e] at ex; cases ex
        | some z => rw [e] at ex; exact ⟨z, rfl, (Option.some.inj ex).symm⟩
      have mono : ∀ y ∈ un, y ∈ ((colNs tab.cols).drop 1).take (j + 1) := fun y hy => by rw [List.take_add_one]; exact List.mem_append.mpr (.inl (k8 y hy))
      refine ⟨_, rfl, t, c, cs, 4, rfl, L8.T, by decide, by decide +kernel, fun d H9 d0 d1 T9 s9 => ⟨rfl, _, rfl, ?_⟩⟩
      have L9 := L8.stepX T9 s9
      have N9 := s9 _ _ N8 x4
      refine ifD (fun _ => ?_) (fun _ => ⟨_, un, rfl, L9, l8, nd8, mono, N9⟩)
      obtain ⟨g1, g2, g3, g4, g5, g6, _⟩ := L9.see A hm htk
      refine ⟨_, rfl, _, rfl, S, _, rfl, g1, a.d, _, rfl, g4, a.u, _, rfl, .inl (SqL.of L9.un), _, _, rfl, rfl, _, rfl, ?_⟩
      refine ifD (fun h4 => ?_) (fun _ => ⟨_, un, rfl, L9, l8, nd8, mono, N9⟩)
      rw [List.length_map] at h4
      refine ⟨_, rfl, _, rfl, S, _, rfl, g1, a.d, _, rfl, g4, .inl ⟨rfl, _, SqL.of L9.un⟩, _, rfl, a.u, _, _, rfl, rfl, L9.un, (by rw [List.length_map]; exact small1000 (by omega)), ?_⟩
      have ku : KeepT H9 (upd H9 a.u (.lst (un.map V.str ++ [.str z]))) := KeepT.upd (fun zs q => by rw [L9.un] at q; cases q)
      obtain ⟨xs', r1, r2⟩ := L9.ch
      obtain ⟨ys', r3, r4⟩ := L9.rf
      refine ⟨_, un ++ [z], rfl, ⟨T9.upd ut' cu.symm, L9.kt.trans ku, SameE.upd (by simp) _ L9.se, by rw [upd_ne y2]; exact L9.ol, ⟨xs', by rw [upd_ne n4]; exact r1, r2.mono ku⟩, by rw [upd_same, List.map_append]; rfl, ⟨ys', by rw [upd_ne (Ne.symm n6)]; exact r3, r4.mono ku⟩⟩, by rw [List.length_append, List.length_singleton]; omega, ?_, ?_, by rw [upd_ne x2]; exact N9⟩
      · refine List.nodup_append.mpr ⟨nd8, by simp, fun y hy w hw => ?_⟩
        have : w = z := by simpa using hw
        subst this
        rintro rfl
        obtain ⟨i0, hi0, ei⟩ := List.getElem_of_mem (k8 _ hy)
        rw [List.length_take] at hi0
        rw [List.getElem_take] at ei
        have ndn : ((colNs tab.cols).drop 1).Nodup := bare.co.nd.sublist (List.drop_sublist _ _)
        have b1 : ((colNs tab.cols).drop 1)[i0]? = some y := by rw [List.getElem?_eq_getElem (by omega), ei]
        have := nd_ix ndn b1 hz
        omega
      · intro y hy
        rcases List.mem_append.mp hy with hy | hy
        · exact mono y hy
        · rw [List.mem_singleton.mp hy, List.take_add_one, hz]
          exact List.mem_append.mpr (.inr (by simp))
    rintro σ H8 ⟨v5, un, rfl, L8, l8, nd8, k8, N8⟩
    have hun : ∀ x ∈ un, x ∈ colNs (tab.cols.drop 1) := fun x hx => by
      have := List.mem_of_mem_take (k8 x hx)
      unfold colNs at this ⊢
      rw [List.map_drop]
      exact this
    -- the references
    obtain ⟨g1, g2, g3, g4, g5, ⟨xc, g6, g7⟩, _⟩ := L8.see A hm htk
    have lx : xc.length = tab.cols.length := by rw [g7.length, List.length_map]
    refine ⟨_, rfl, _, rfl, a.c, xc, rfl, SqL.of g6, fun CL hCL => ?_⟩
    rw [cut_tail]
    have e9 := same_new hCL (.lst (xc.drop 1))
    have fCL : H CL = none := by
      cases e : H CL with
      | none => rfl
      | some o =>
        exfalso
        by_cases hin : CL ∈ [t, a.k, a.u, a.r]
        · simp only [List.mem_cons, List.not_mem_nil, or_false] at hin
          obtain ⟨xs', r1, _⟩ := L8.ch
          obtain ⟨ys', r3, _⟩ := L8.rf
          rcases hin with z | z | z | z
          · obtain ⟨_, _, _, _, e', _⟩ := L8.T.dk; rw [z, e'] at hCL; cases hCL
          · rw [z, r1] at hCL; cases hCL
          · rw [z, L8.un] at hCL; cases hCL
          · rw [z, r3] at hCL; cases hCL
        · have := L8.se _ _ e hin; rw [hCL] at this; cases this
    obtain ⟨w1, w2, w3, w4⟩ := fresh fCL
    refine ⟨CL, rfl, ⟨_, SqL.of upd_same⟩, for_it walk_list (fun j σ H' => ∃ v8 v9, ∃ rf : List (Str × Str), σ = [some (.ref t), some (.ref S), some (.str tab.n), some (.ref a.c), some (.ref NL), v5, some (.ref OL), v7, v8, v9] ∧ Lim H H' t c cs a OL os conds un rf ∧ rf.length ≤ 4 ∧ (rf.map (·.1)).Nodup ∧ (∀ p ∈ rf, p.1 ∈ ((colNs tab.cols).drop 1).take j) ∧ (∀ p ∈ rf, ∃ col ∈ tab.cols.drop 1, col.n = p.1 ∧ p.2 ≠ tab.n ∧ ∃ f ∈ frOf s, f.1 = p.2 ∧ ∃ kc, f.2[0]? = some kc ∧ kc.k = col.k) ∧ H' CL = some (.lst (xc.drop 1))) ⟨_, _, [], rfl, L8.step e9, by decide, List.nodup_nil, (by intro x hx; cases hx), (by intro x hx; cases hx), upd_same⟩ (fun j σ H' _ ⟨_, _, _, _, _, _, _, _, _, e⟩ => SqL.of e) ?_ ?_⟩
    · rintro j x σ H9 H9' hj ⟨v8, v9, rf, rfl, L9, l9, nd9, k9, rc9, C9⟩ ⟨rfl, ex⟩
      have ex1 : xc[j + 1]? = some x := by rw [List.getElem?_drop] at ex; rw [show j + 1 = 1 + j by omega]; exact ex
      have hjl : j + 1 < tab.cols.length := by rw [← lx]; exact (List.getElem?_eq_some_iff.mp ex1).1
      have ecol : tab.cols[j + 1]? = some tab.cols[j + 1] := List.getElem?_eq_getElem hjl
      obtain ⟨xs', ca, u1, u2, u3⟩ := (D.co).get ecol
      have hxc : xs' = xc := by
        have := L8.se _ _ u1 (by
          simp only [List.mem_cons, List.not_mem_nil, or_false, not_or]
          exact ⟨T.notL u1, n1, n2, n3⟩)
        rw [g6] at this
        cases this
        rfl
      rw [hxc, ex1] at u2
      cases u2
      have hca : ∀ {H' : Hp} {rf' : List (Str × Str)}, Lim H H' t c cs a OL os conds un rf' → H' ca = some (.tup [.str tab.cols[j + 1].n, .str tab.cols[j + 1].k, .bl tab.cols[j + 1].b]) := fun L => L.kt _ _ u3
      have mono : ∀ p ∈ rf, p.1 ∈ ((colNs tab.cols).drop 1).take (j + 1) := fun p hp => by rw [List.take_add_one]; exact List.mem_append.mpr (.inl (k9 p hp))
      have skip : ∀ (H' : Hp) (v9 : Option V), Lim H H' t c cs a OL os conds un rf → H' CL = some (.lst (xc.drop 1)) → ∃ v8 v9', ∃ rf' : List (Str × Str), [some (V.ref t), some (V.ref S), some (V.str tab.n), some (V.ref a.c), some (V.ref NL), v5, some (V.ref OL), v7, some (V.ref ca), v9] = [some (V.ref t), some (V.ref S), some (V.str tab.n), some (V.ref a.c), some (V.ref NL), v5, some (V.ref OL), v7, v8, v9'] ∧ Lim H H' t c cs a OL os conds un rf' ∧ rf'.length ≤ 4 ∧ (rf'.map (·.1)).Nodup ∧ (∀ p ∈ rf', p.1 ∈ ((colNs tab.cols).drop 1).take (j + 1)) ∧ (∀ p ∈ rf', ∃ col ∈ tab.cols.drop 1, col.n = p.1 ∧ p.2 ≠ tab.n ∧ ∃ f ∈ frOf s, f.1 = p.2 ∧ ∃ kc, f.2[0]? = some kc ∧ kc.k = col.k) ∧ H' CL = some (.lst (xc.drop 1)) :=
        fun H' v9 L h => ⟨_, _, rf, rfl, L, l9, nd9, mono, rc9, h⟩
      refine ⟨_, rfl, (by show 0 ≤ sizeLine; decide), fun pe hpe => ?_⟩
      have e10 := same_new hpe (.lst [])
      have L10 := L9.step e10
      have C10 := e10 _ _ C9
      have sok : ∀ x ∈ os, PySem.PyData.strOk x = true := fun x hx => by
        obtain ⟨p, hp, e⟩ := sch_in (ho x hx).1
        rw [← e]
        exact (hnk p hp).1.str
      refine ⟨.list (os.map PyData.str), .list [], .lst (SqL.of L10.ol) (strs_dp _), .lst (SqL.of upd_same) .nil, strs_shaped sok, rfl, _, rfl, ?_⟩
      rw [strs_eqv]
      refine ite2 (fun hne => ?_) (fun _ => skip _ _ L10 C10)
      have hpos : 0 < os.length := by
        cases os with
        | nil => cases hne
        | cons y r => exact Nat.succ_pos _
      refine ⟨_, rfl, t, c, cs, 3, rfl, L10.T, by decide, by decide +kernel, fun d H11 d0 d1 T11 s11 => ⟨rfl, _, rfl, ?_⟩⟩
      have L11 := L10.stepX T11 s11
      have C11 := s11 _ _ C10 w4
      refine ifD (fun _ => ?_) (fun _ => skip _ _ L11 C11)
      obtain ⟨g1, g2, g3, g4, g5, g6', _⟩ := L11.see A hm htk
      obtain ⟨ys', r3, r4⟩ := L11.rf
      have lr : ys'.length = rf.length := by rw [r4.length, List.length_map]
      refine ⟨_, rfl, _, rfl, S, _, rfl, g1, a.d, _, rfl, g5, a.r, _, rfl, .inl (SqL.of r3), _, _, rfl, rfl, _, rfl, ?_⟩
      refine ifD (fun h4 => ?_) (fun _ => skip _ _ L11 C11)
      refine ⟨_, rfl, _, rfl, _, rfl, OL, _, rfl, .inl (SqL.of L11.ol), t, c, cs, ((os.map V.str).length : Int), rfl, L11.T, by rw [List.length_map]; omega, ?_, fun g H12 gg0 gg1 T12 s12 => ?_⟩
      · have b9 : (2 : Nat) ^ 9000 = 2 ^ 7 * 2 ^ 8993 := by rw [← Nat.pow_add]
        have b8 : 0 < (2 : Nat) ^ 8993 := Nat.pow_pos (by decide)
        rw [b9]
        have : (((os.map V.str).length : Int)).natAbs = os.length := by rw [List.length_map]; omega
        omega
      have L12 := L11.stepX T12 s12
      have C12 := s12 _ _ C11 w4
      rw [List.length_map] at gg1
      have hgl : g.toNat < os.length := by omega
      have eo : os[g.toNat]? = some os[g.toNat] := List.getElem?_eq_getElem hgl
      have hmo := List.getElem_mem hgl
      generalize os[g.toNat] = oth at eo hmo
      obtain ⟨hin, hneq⟩ := ho _ hmo
      obtain ⟨p, hp, ep⟩ := sch_in hin
      subst ep
      refine ⟨OL, _, g, _, rfl, rfl, SqL.of L12.ol, at_of (j := g.toNat) (by omega) (by rw [List.getElem?_map, eo]; rfl), ?_⟩
      obtain ⟨g1, g2, g3, g4, g5, g6', gq⟩ := L12.see A hm htk
      obtain ⟨q1, q2, q3⟩ := gq p hp
      have hp0 : p.2.cols[0]? = some (p.2.cols[0]'((hnk p hp).2)) := List.getElem?_eq_getElem _
      obtain ⟨xq, qa, z1, z2, z3⟩ := q3.get hp0
      generalize p.2.cols[0]'((hnk p hp).2) = kc at hp0 z3
      refine ⟨_, rfl, _, rfl, S, _, rfl, q1, p.1.d, _, rfl, q2, p.1.c, _, 0, _, rfl, rfl, SqL.of z1, atI_nat (j := 0) z2, qa, _, 1, _, rfl, rfl, SqT.of z3, atI_nat (j := 1) rfl, _, rfl, ca, _, 1, _, rfl, rfl, SqT.of (hca L12), atI_nat (j := 1) rfl, rfl, _, rfl, ?_⟩
      refine ifD (fun hkk => ?_) (fun _ => skip _ _ L12 C12)
      obtain ⟨ys2, r5, r6⟩ := L12.rf
      refine ⟨_, rfl, _, rfl, S, _, rfl, g1, a.d, _, rfl, g5, .inl ⟨rfl, _, SqL.of r5⟩, ?_⟩
      refine ⟨_, rfl, ca, _, 0, _, rfl, rfl, SqT.of (hca L12), atI_nat (j := 0) rfl, _, rfl, (by show 2 ≤ sizeLine; decide), fun pt hpt => ?_⟩
      have e13 := same_new hpt (.tup [.str tab.cols[j + 1].n, .str p.2.n])
      have L13 := L12.step e13
      have r7 := e13 _ _ r5
      refine ⟨a.r, ys2, _, rfl, rfl, r7, (by rw [r6.length, List.length_map]; exact small1000 (by omega)), ?_⟩
      have ku : KeepT (upd H12 pt (.tup [.str tab.cols[j + 1].n, .str p.2.n])) (upd (upd H12 pt (.tup [.str tab.cols[j + 1].n, .str p.2.n])) a.r (.lst (ys2 ++ [.ref pt]))) := KeepT.upd (fun zs q => by rw [r7] at q; cases q)
      obtain ⟨xs3, v1, v2⟩ := L13.ch
      have enm : ((colNs tab.cols).drop 1)[j]? = some tab.cols[j + 1].n := by
        rw [List.getElem?_drop, show 1 + j = j + 1 by omega]
        unfold colNs
        rw [List.getElem?_map, ecol]
        rfl
      refine ⟨_, _, rf ++ [(tab.cols[j + 1].n, p.2.n)], rfl, ⟨L13.T.upd rt' cr.symm, L13.kt.trans ku, SameE.upd (by simp) _ L13.se, by rw [upd_ne y3]; exact L13.ol, ⟨xs3, by rw [upd_ne n5]; exact v1, v2.mono ku⟩, by rw [upd_ne n6]; exact L13.un, ⟨ys2 ++ [.ref pt], upd_same, ?_⟩⟩, by rw [List.length_append, List.length_singleton]; omega, ?_, ?_, ?_, by rw [upd_ne w3]; exact e13 _ _ C12⟩
      · rw [List.map_append]
        exact TpL.snoc ((r6.mono (KeepT.of e13)).mono ku) (rf_mk (ku _ _ upd_same))
      · rw [List.map_append]
        refine List.nodup_append.mpr ⟨nd9, by simp, fun y hy w hw => ?_⟩
        have : w = tab.cols[j + 1].n := by simpa using hw
        subst this
        rintro rfl
        obtain ⟨pp, hpp, epp⟩ := List.mem_map.mp hy
        have hkk9 := k9 pp hpp
        rw [epp] at hkk9
        obtain ⟨i0, hi0, ei⟩ := List.getElem_of_mem hkk9
        rw [List.length_take] at hi0
        rw [List.getElem_take] at ei
        have ndn : ((colNs tab.cols).drop 1).Nodup := bare.co.nd.sublist (List.drop_sublist _ _)
        have b1 : ((colNs tab.cols).drop 1)[i0]? = some tab.cols[j + 1].n := by rw [List.getElem?_eq_getElem (by omega), ei]
        have := nd_ix ndn b1 enm
        omega
      · intro y hy
        rcases List.mem_append.mp hy with hy | hy
        · exact mono y hy
        · rw [List.mem_singleton.mp hy, List.take_add_one, enm]
          exact List.mem_append.mpr (.inr (by simp))
      · intro y hy
        rcases List.mem_append.mp hy with hy | hy
        · exact rc9 y hy
        · rw [List.mem_singleton.mp hy]
          refine ⟨tab.cols[j + 1], ?_, rfl, hneq, (p.2.n, p.2.cols), List.mem_map.mpr ⟨p, hp, rfl⟩, rfl, kc, hp0, V.str.inj hkk⟩
          refine List.mem_of_getElem? (i := j) ?_
          rw [List.getElem?_drop, show 1 + j = j + 1 by omega]
          exact ecol
    · rintro σ H9 ⟨v8, v9, rf, rfl, L9, l9, nd9, k9, rc9, C9⟩
      obtain ⟨g1, g2, g3, g4, g5, g6', _⟩ := L9.see A hm htk
      obtain ⟨xs3, v1, v2⟩ := L9.ch
      obtain ⟨ys3, v3, v4⟩ := L9.rf
      have hd9 : H9 a.d = some (.dK (descD a)) := L9.se _ _ D.dk (by
        simp only [List.mem_cons, List.not_mem_nil, or_false, not_or]
        exact ⟨a2 _ hm, ne_of D.dk hk0 (by intro z; cases z), ne_of D.dk hu0 (by intro z; cases z), ne_of D.dk hr0 (by intro z; cases z)⟩)
      exact q ⟨tab.n, tab.cols, conds, un, rf⟩ H9 rfl rfl ⟨bare.nm, bare.co, bare.l0, bare.l5, by show conds.length ≤ 2; omega, k7, l8, nd8, hun, l9, nd9, rc9⟩ ⟨hd9, g6', ⟨xs3, v1, v2⟩, L9.un, ⟨ys3, v3, v4⟩⟩ L9.T L9.kt L9.se)

theorem small_nat {x : Int} (h : 0 ≤ x) (h2 : x ≤ 1000) : x.natAbs < 2 ^ 9000 := by
  have h1 : x.natAbs ≤ 1000 := by omega
  exact Nat.lt_of_le_of_lt h1 (by decide +kernel)
theorem ok_law_schema {f : Addr} {fd : FuncData} (k : Kn K mg "_law_schema" s_law_schema ["tape", "least", "most"] f fd) (z : Z K mg)
    {g_law_take : Addr} {gd_law_take : FuncData} (c_law_take : Cal P w K mg base 1 "_law_take" ["tape", "many"] (spTake) g_law_take gd_law_take)
    {g_law_name : Addr} {gd_law_name : FuncData} (c_law_name : Cal P w K mg base 2 "_law_name" ["tape", "used"] (spName) g_law_name gd_law_name)
    {g_law_table : Addr} {gd_law_table : FuncData} (c_law_table : Cal P w K mg base 1 "_law_table" ["columns"] (spTable) g_law_table gd_law_table)
    {g_law_columns : Addr} {gd_law_columns : FuncData} (c_law_columns : Cal P w K mg base 3 "_law_columns" ["tape", "used", "many"] (spColumns) g_law_columns gd_law_columns)
    {g_law_limits : Addr} {gd_law_limits : FuncData} (c_law_limits : Cal P w K mg base 7 "_law_limits" ["tape", "schema", "table"] (spLimits) g_law_limits gd_law_limits) :
    Cal P w K mg base 8 "_law_schema" ["tape", "least", "most"] (spSchema) f fd := k.cal (by
  refine k.F.ok sc_law_schema (fun vs H Q E h => ?_) (fun cdv A outer s H vs Q E hr h => ?_)
  · obtain ⟨t, c, cs, least, most, rfl, _⟩ := h; rfl
  · obtain ⟨t, c, cs, least, most, rfl, T, b0, b1, b6, q⟩ := h
    have hu := hu_of hr
    refine ⟨_, (pss_cons (ps_set (i := 3) sc_law_schema.nd rfl (Or.inl rfl) (pe_lst pa_nil))
        (pss_cons (ps_set (i := 4) sc_law_schema.nd rfl (Or.inl rfl) pe_dnewK)
        (pss_cons (ps_for PassesOwn.never rfl (pi_range1 (by rfl) z.range (pa_cons (pe_op op_add (pv 1) (pe_call c_law_take.G (hr.mono (by decide)) (by rfl) c_law_take.m c_law_take.kp c_law_take.b .nil pass0 (pa_cons (pv 0) (pa_cons (pe_op op_add (pe_op op_sub (pv 2) (pv 1)) pe_int) pa_nil)))) pa_nil)) (pg_name (i := 5) sc_law_schema.nd rfl (Or.inl rfl))
        (pss_one (ps_dput hu (pv 4) (pe_call c_law_name.G (hr.mono (by decide)) (by rfl) c_law_name.m c_law_name.kp c_law_name.b .nil pass0 (pa_cons (pv 0) (pa_cons (pv 3) pa_nil))) (pe_call c_law_table.G (hr.mono (by decide)) (by rfl) c_law_table.m c_law_table.kp c_law_table.b .nil pass0 (pa_cons (pe_call c_law_columns.G (hr.mono (by decide)) (by rfl) c_law_columns.m c_law_columns.kp c_law_columns.b .nil pass0 (pa_cons (pv 0) (pa_cons (pe_lst pa_nil) (pa_cons (pe_call c_law_take.G (hr.mono (by decide)) (by rfl) c_law_take.m c_law_take.kp c_law_take.b .nil pass0 (pa_cons (pv 0) (pa_cons pe_int pa_nil))) pa_nil)))) pa_nil)) rfl)))
        (pss_cons (ps_for PassesOwn.never rfl (pi_list (pe_callB (call_sortedD rfl) (by rfl) z.sorted (by decide +kernel) (pa_cons (pv 4) pa_nil))) (pg_name (i := 6) sc_law_schema.nd rfl (Or.inl rfl))
        (pss_one (ps_expr (pe_call c_law_limits.G (hr.mono (by decide)) (by rfl) c_law_limits.m c_law_limits.kp c_law_limits.b .nil pass0 (pa_cons (pv 0) (pa_cons (pv 4) (pa_cons (pv 6) pa_nil)))))))
        (pss_one (ps_ret (pv 4))))))), ?_⟩
    refine ⟨(by show 0 ≤ sizeLine; decide), fun U hU => ?_⟩
    refine fun S hS => ?_
    have m1 := same_new hU (.lst [])
    have m2 := same_new hS (.dK [])
    have M := m1.trans m2
    have fS : H S = none := m1.free hS
    have US : U ≠ S := ne_of_none upd_same hS
    have hUt := T.fresh hU
    have hSt := T.fresh fS
    refine ⟨_, rfl, _, rfl, _, rfl, _, rfl, _, _, rfl, rfl, _, _, rfl, rfl, t, c, cs, most - least + 1, rfl, T.mono M, by omega, small_nat (by omega) (by omega), fun d H1 d0 d1 T1 s1 => ?_⟩
    have hU1 : H1 U = some (.lst []) := s1 _ _ (m2 _ _ upd_same) hUt.1
    have hS1 : H1 S = some (.dK []) := s1 _ _ upd_same hSt.1
    refine ⟨_, _, rfl, rfl, _, rfl, by omega, by omega, for_range (lo := 0) (n := (least + d).toNat) (fun i σ H' => ∃ v, ∃ s : Sch, σ = [some (.ref t), some (.int least), some (.int most), some (.ref U), some (.ref S), v, none] ∧ SchAt H' S s t c ∧ TapeAt H' t c cs ∧ H' U = some (.lst ((schN s).map V.str)) ∧ U ∉ schL s ∧ (∀ p ∈ s, TabBare p.2) ∧ s.length = i ∧ SameX t H H' ∧ (∀ b ∈ schL s, H b = none)) ⟨none, [], rfl, ⟨hS1, (by intro p hp; cases hp), List.nodup_nil, ?_, ?_⟩, T1, hU1, (by intro z; cases z), (by intro p hp; cases hp), rfl, (SameX.of M).trans s1, (by intro p hp; cases hp)⟩ ?_ ?_⟩
    · show [t, S].Nodup
      simp only [List.nodup_cons, List.mem_cons, List.not_mem_nil, or_false, not_false_eq_true, List.nodup_nil, and_true]
      exact hSt.1.symm
    · show [c].Nodup
      simp
    · rintro i σ H2 hi ⟨v, s, rfl, A, T2, hU2, nU, bare, ls, S2, new⟩
      have ln : (schN s).length = i := by unfold schN; rw [List.length_map]; exact ls
      refine ⟨_, rfl, (by show 0 ≤ sizeLine; decide), fun E hE => ?_⟩
      have e3 := same_new hE (.lst [])
      refine ⟨_, rfl, t, c, cs, 5, rfl, T2.mono e3, by decide, by decide +kernel, fun d H3 d0 d1 T3 s3 => ?_⟩
      have fE := T2.fresh hE
      refine ⟨t, c, E, cs, [], d, rfl, T3, s3 _ _ upd_same fE.1, fE.2.symm, d0, by omega, (by show ((0 : Nat) : Int) + d ≤ 25; omega), fun L cols xs H4 _ hL rL lc okc T4 _ s4 => ?_⟩
      refine ⟨L, cols, rfl, ⟨xs, hL, rL⟩, fun a H5 D5 s5 fd fl ndA => ?_⟩
      have X24 : ∀ b o, H2 b = some o → b ≠ t → H4 b = some o := fun b o hb ht => s4 _ _ (s3 _ _ (e3 _ _ hb) ht) ht (ne_of_none hb hE)
      have X25 : SameX t H2 H5 := fun b o hb ht => s5 _ _ (X24 b o hb ht)
      have ht4 : ∃ o, H4 t = some o := by obtain ⟨_, _, _, _, e, _⟩ := T4.dk; exact ⟨_, e⟩
      have back : ∀ {b : Addr}, H4 b = none → b ≠ t ∧ H2 b = none := fun {b} hb => by
        have h1 : b ≠ t := fun z => by obtain ⟨o, e⟩ := ht4; rw [z, e] at hb; cases hb
        refine ⟨h1, ?_⟩
        cases z : H2 b with
        | none => rfl
        | some o => have := X24 b o z h1; rw [hb] at this; cases this
      have T5 := T4.mono s5
      have A5 := A.monoX T2 X25
      have hU5 := X25 _ _ hU2 hUt.1
      refine ⟨_, rfl, _, rfl, _, rfl, t, c, U, cs, schN s, rfl, T5, hU5, hUt.2.symm, by omega, fun z H6 nk nf T6 hU6 s6 => ?_⟩
      have A6 := A5.monoXY T5 hU5 nU s6
      have hdk : H5 a.d = some (.dK (descD a)) := (D5 z).dk
      have aU : a.d ≠ U := fun e => by rw [e, hU5] at hdk; cases hdk
      have bU : ∀ b ∈ adL a, b ≠ U := fun b hb e => by
        have := (back (fl b hb)).2
        rw [e, hU2] at this; cases this
      have D6 : DescAt H6 a ⟨z, cols, [], [], []⟩ := (D5 z).frame (KeepT.ofXY T5 hU5 s6) (fun o e => s6 _ _ e (back fd).1 aU) (fun b hb o e => s6 _ _ e (back (fl b hb)).1 (bU b hb))
      refine ⟨S, _, rfl, DPut.k (k := (Sum.inr z : Key)) A6.sk (by unfold schK; rw [List.length_map]; exact Nat.lt_of_lt_of_le (by omega : s.length < 1000) (by show 1000 ≤ sizeLine; decide)), ?_⟩
      rw [schK_new (s := s) (a := a) (tab := ⟨z, cols, [], [], []⟩) nf]
      refine ⟨_, s ++ [(a, ⟨z, cols, [], [], []⟩)], rfl, A6.add D6 nf ?_ ?_ ndA, T6.upd hSt.1 hSt.2, ?_, ?_, ?_, (by rw [List.length_append, List.length_singleton, ls]), ?_, ?_⟩
      · refine ⟨(back fd).1, fun e => ?_, fun p hp e => ?_⟩
        · have := (back fd).2; rw [e, A.sk] at this; cases this
        · have := (back fd).2; rw [e, (A.ds p hp).dk] at this; cases this
      · refine fun b hb => ⟨fun e => ?_, fun e => ?_⟩
        · have := (back (fl b hb)).2; rw [e, T2.ls] at this; cases this
        · obtain ⟨p, hp, hbp⟩ := List.mem_flatMap.mp e
          obtain ⟨xs', g⟩ := (A.ds p hp).isL b hbp
          have := (back (fl b hb)).2; rw [g] at this; cases this
      · rw [upd_ne US, hU6]
        have : schN (s ++ [(a, ⟨z, cols, [], [], []⟩)]) = schN s ++ [z] := by unfold schN; rw [List.map_append]; rfl
        rw [this]
      · intro e
        unfold schL at e
        rw [List.flatMap_append] at e
        rcases List.mem_append.mp e with e | e
        · exact nU e
        · exact bU U (by simpa using e) rfl
      · intro p hp
        rcases List.mem_append.mp hp with hp | hp
        · exact bare p hp
        · rw [List.mem_singleton.mp hp]
          exact ⟨nk, okc, by show 1 ≤ cols.length; omega, by show cols.length ≤ 5; omega, rfl, rfl, rfl⟩
      · intro b o hb ht
        have nb : b ≠ U := ne_of_none hb hU
        rw [upd_ne (ne_of_none hb fS)]
        exact s6 _ _ (X25 _ _ (S2 _ _ hb ht) ht) ht nb
      · intro b hb
        unfold schL at hb
        rw [List.flatMap_append] at hb
        rcases List.mem_append.mp hb with hb | hb
        · exact new b hb
        · have hb : b ∈ adL a := by simpa using hb
          have h2 := back (fl b hb)
          exact S2.free h2.1 h2.2
    rintro σ H2 ⟨v, s, rfl, A, T2, hU2, nU, bare, ls, S2, new⟩
    have l6 : s.length ≤ 6 := by omega
    refine ⟨_, rfl, S, schK s, schN s, rfl, .inl A.sk, sch_keys s, (by unfold schN; rw [List.length_map]; omega), fun ys P hper _ hP => ?_⟩
    have e3 := same_new hP (.lst (ys.map V.str))
    have ndy : ys.Nodup := hper.nodup_iff.mpr A.nm
    refine ⟨P, rfl, ⟨_, SqL.of upd_same⟩, for_it walk_list (fun j σ H' => ∃ w, ∃ s' : Sch, σ = [some (.ref t), some (.int least), some (.int most), some (.ref U), some (.ref S), v, w] ∧ Half H H' t c cs S s s' (ys.take j) ∧ H' P = some (.lst (ys.map V.str))) ⟨none, s, rfl, ⟨A.monoX T2 (SameX.of e3), T2.mono e3, rfl, rfl, (by intro p hp hd; cases hd), fun p hp _ => bare p hp, S2.trans (SameX.of e3), new⟩, upd_same⟩ (fun j σ H' _ ⟨_, _, _, _, e⟩ => SqL.of e) ?_ ?_⟩
    · rintro j x σ H3 H3' hj ⟨w, s', rfl, L, hP3⟩ ⟨rfl, ex⟩
      rw [List.length_map] at hj
      have ey : ys[j]? = some ys[j] := List.getElem?_eq_getElem hj
      rw [List.getElem?_map, ey] at ex
      cases ex
      have hin : ys[j] ∈ schN s' := by rw [schN_of L.fr]; exact hper.mem_iff.mp (List.getElem_mem hj)
      obtain ⟨⟨a, tab⟩, hm, hn⟩ := sch_in hin
      have hn : tab.n = ys[j] := hn
      have hnd : tab.n ∉ ys.take j := by
        rw [hn]
        intro z
        obtain ⟨i0, hi0, ei⟩ := List.getElem_of_mem z
        rw [List.length_take] at hi0
        rw [List.getElem_take] at ei
        have b1 : ys[i0]? = some ys[j] := by rw [List.getElem?_eq_getElem (by omega), ei]
        have := nd_ix ndy b1 ey
        omega
      have l6' : s'.length ≤ 6 := by have := congrArg List.length L.ads; simp only [List.length_map] at this; omega
      refine ⟨_, rfl, _, rfl, _, rfl, t, c, S, cs, s', a, tab, (by rw [hn]; rfl), L.T, L.A, l6', fun p hp => ?_, hm, L.ba _ hm hnd, fun tab' H4 hn' hc' ok D T4 kt se => ?_⟩
      · by_cases hd : p.2.n ∈ ys.take j
        · have k := L.ok p hp hd; exact ⟨k.nm, k.l0⟩
        · have k := L.ba p hp hd; exact ⟨k.nm, k.l0⟩
      obtain ⟨s2, L2⟩ := L.put hm hn' hc' ok D T4 kt se
      have et : ys.take (j + 1) = ys.take j ++ [tab.n] := by rw [List.take_add_one, ey, hn]; rfl
      refine ⟨_, s2, rfl, by rw [et]; exact L2, se _ _ hP3 fun hc => ?_⟩
      have hP0 : H2 P = none := hP
      obtain ⟨_, _, _, _, et2, _⟩ := T2.dk
      have dd : ∀ b ∈ adL a, H2 b ≠ none := fun b hb z => by
        have e1 : b ∈ schL s := by rw [← schL_of L.ads]; exact mem_flat hm hb
        obtain ⟨p, hp, hbp⟩ := List.mem_flatMap.mp e1
        obtain ⟨xs', g⟩ := (A.ds p hp).isL b hbp
        rw [g] at z; cases z
      simp only [List.mem_cons, List.not_mem_nil, or_false] at hc
      rcases hc with z | z | z | z
      · rw [z, et2] at hP0; cases hP0
      · exact dd a.k (by simp [adL]) (z ▸ hP0)
      · exact dd a.u (by simp [adL]) (z ▸ hP0)
      · exact dd a.r (by simp [adL]) (z ▸ hP0)
    rintro σ H3 ⟨w, s', rfl, L, hP3⟩
    rw [List.length_map, List.take_length] at L
    have ls' : s'.length = s.length := by have := congrArg List.length L.ads; simpa using this
    refine ⟨_, rfl, q S s' H3 L.A (fun p hp => ?_) (by omega) (by omega) L.T L.se⟩
    rw [L.fr]
    refine L.ok p hp (hper.mem_iff.mpr ?_)
    rw [← schN_of L.fr]
    exact List.mem_map.mpr ⟨p, hp, rfl⟩)
theorem ok_law_pick {f : Addr} {fd : FuncData} (k : Kn K mg "_law_pick" s_law_pick ["tape", "items", "other"] f fd) (z : Z K mg)
    {g_law_take : Addr} {gd_law_take : FuncData} (c_law_take : Cal P w K mg base 1 "_law_take" ["tape", "many"] (spTake) g_law_take gd_law_take) :
    Cal P w K mg base 2 "_law_pick" ["tape", "items", "other"] (spPick) f fd := k.cal (by
  refine k.F.ok sc_law_pick (fun vs H Q E h => ?_) (fun cdv A outer s H vs Q E hr h => ?_)
  · obtain ⟨t, c, L, cs, xs, ds, o, rfl, _⟩ := h; rfl
  · obtain ⟨t, c, L, cs, xs, ds, o, rfl, T, hL, rL, c1, c2, l40, q⟩ := h
    refine ⟨_, (pss_cons (ps_if (PW.pt (pw_or (pt_cmpR (op_eqD hr.units) (pv 1) (pe_lst pa_nil) (nomark _)) (pw_or1 (pt_cmpR op_eq (pe_call c_law_take.G (hr.mono (by decide)) (by rfl) c_law_take.m c_law_take.kp c_law_take.b .nil pass0 (pa_cons (pv 0) (pa_cons pe_int pa_nil))) pe_int (nomark _))))) (pss_one (ps_ret (pv 2))) pss_nil)
        (pss_one (ps_ret (pe_ix ix_list (pv 1) (pe_call c_law_take.G (hr.mono (by decide)) (by rfl) c_law_take.m c_law_take.kp c_law_take.b .nil pass0 (pa_cons (pv 0) (pa_cons (pe_callB call_len_seq (by rfl) z.len (by decide +kernel) (pa_cons (pv 1) pa_nil)) pa_nil))) (fun _ _ => rfl))))), ?_⟩
    have hLt := T.notL hL
    refine ⟨_, rfl, (by show 0 ≤ sizeLine; decide), fun e he => ?_⟩
    have e1 := same_new he (.lst [])
    have hL1 := e1 _ _ hL
    have dl : ∀ {b : Bool}, True := trivial
    refine ⟨_, _, .lst (SqL.of hL1) ((rL.mono (KeepT.of e1)).py (K := K)), .lst (SqL.of upd_same) .nil, shapedL_of c1 (by omega), rfl, _, rfl, ?_⟩
    have T1 := T.mono e1
    have le : PyData.eqv (.list (pyOfL ds)) (.list []) = ds.isEmpty := by cases ds <;> rfl
    rw [le]
    refine ite2 (fun h1 => ?_) (fun h1 => ?_)
    · exact iteT ⟨_, rfl, q o _ (.inl rfl) T1 (SameX.of e1)⟩
    have hpos : 0 < xs.length := by
      rw [rL.length]
      cases ds with
      | nil => exact absurd rfl h1
      | cons d r => exact Nat.succ_pos _
    refine ⟨_, rfl, t, c, cs, 12, rfl, T1, by decide, by decide +kernel, fun d H2 d0 d1 T2 s2 => ⟨rfl, _, rfl, ?_⟩⟩
    have S2 := (SameX.of e1).trans s2
    refine ite2 (fun _ => ?_) (fun _ => ?_)
    · exact ⟨_, rfl, q o _ (.inl rfl) T2 S2⟩
    have hL2 := S2 _ _ hL hLt
    refine ⟨_, rfl, _, rfl, _, rfl, L, _, rfl, .inl (SqL.of hL2), t, c, cs, (xs.length : Int), rfl, T2, by omega, natSm (by omega) (by omega), fun g H3 g0 g1 T3 s3 => ?_⟩
    have S3 := S2.trans s3
    have hg : g.toNat < xs.length := by omega
    have eg : xs[g.toNat]? = some xs[g.toNat] := List.getElem?_eq_getElem hg
    obtain ⟨dd, h1, h2⟩ := (rL.mono (KeepT.ofX T S3)).get eg
    exact ⟨L, _, g, _, rfl, rfl, SqL.of (S3 _ _ hL hLt), at_of (j := g.toNat) (by omega) eg, q _ _ (.inr ⟨dd, List.mem_of_getElem? h1, h2⟩) T3 S3⟩)
theorem ok_law_limit_step {f : Addr} {fd : FuncData} (k : Kn K mg "_law_limit_step" s_law_limit_step ["tape", "kind", "schema", "table", "columns"] f fd) (z : Z K mg)
    {g_law_names : Addr} {gd_law_names : FuncData} (c_law_names : Cal P w K mg base 1 "_law_names" ["columns"] (spNames) g_law_names gd_law_names)
    {g_law_pick : Addr} {gd_law_pick : FuncData} (c_law_pick : Cal P w K mg base 2 "_law_pick" ["tape", "items", "other"] (spPick) g_law_pick gd_law_pick)
    {g_law_condition : Addr} {gd_law_condition : FuncData} (c_law_condition : Cal P w K mg base 6 "_law_condition" ["tape", "columns"] (spCond) g_law_condition gd_law_condition) :
    Cal P w K mg base 7 "_law_limit_step" ["tape", "kind", "schema", "table", "columns"] (spLimitStep) f fd := k.cal (by
  refine k.F.ok sc_law_limit_step (fun vs H Q E h => ?_) (fun cdv A outer s H vs Q E hr h => ?_)
  · obtain ⟨t, c, S, C, cs, s, k, tn, cols, rfl, _⟩ := h; rfl
  · obtain ⟨t, c, S, C, cs, s, k, tn, cols, rfl, T, A, ok, l6, hk, ht, CA, co, q⟩ := h
    have hu := hu_of hr
    refine ⟨_, (pss_cons (ps_set (i := 5) sc_law_limit_step.nd rfl (Or.inl rfl) (pe_slice sl_list (pe_call c_law_names.G (hr.mono (by decide)) (by rfl) c_law_names.m c_law_names.kp c_law_names.b .nil pass0 (pa_cons (pv 4) pa_nil)) (po_some pe_int) po_none))
        (pss_cons (ps_set (i := 6) sc_law_limit_step.nd rfl (Or.inl rfl) (pe_call c_law_pick.G (hr.mono (by decide)) (by rfl) c_law_pick.m c_law_pick.kp c_law_pick.b .nil pass0 (pa_cons (pv 0) (pa_cons (pv 5) (pa_cons pe_str pa_nil)))))
        (pss_cons (ps_set (i := 7) sc_law_limit_step.nd rfl (Or.inl rfl) (pe_call c_law_pick.G (hr.mono (by decide)) (by rfl) c_law_pick.m c_law_pick.kp c_law_pick.b .nil pass0 (pa_cons (pv 0) (pa_cons (pe_callB (call_sortedD rfl) (by rfl) z.sorted (by decide +kernel) (pa_cons (pv 2) pa_nil)) (pa_cons pe_str pa_nil)))))
        (pss_cons (ps_set (i := 8) sc_law_limit_step.nd rfl (Or.inl rfl) (pe_dget2 hu (pv 2) (pv 3) (pe_disp (pps_cons pe_str (pe_lst pa_nil) (pps_cons pe_str (pe_lst pa_nil) (pps_cons pe_str (pe_lst pa_nil) pps_nil))) (by rfl) (by rfl) (fun z => by cases z) (by decide)) ⟨rfl, rfl, rfl, rfl⟩))
        (pss_cons (ps_if (pt_cmpR op_eq (pv 1) pe_str (nomark _)) (pss_one (ps_ret (pe_tup (pa_cons (pv 1) (pa_cons (pv 3) (pa_cons (pe_call c_law_condition.G (hr.mono (by decide)) (by rfl) c_law_condition.m c_law_condition.kp c_law_condition.b .nil pass0 (pa_cons (pv 0) (pa_cons (pv 4) pa_nil))) pa_nil)))))) pss_nil)
        (pss_cons (ps_if (pt_cmpR op_eq (pv 1) pe_str (nomark _)) (pss_one (ps_ret (pe_tup (pa_cons (pv 1) (pa_cons (pv 3) (pa_cons (pe_call c_law_pick.G (hr.mono (by decide)) (by rfl) c_law_pick.m c_law_pick.kp c_law_pick.b .nil pass0 (pa_cons (pv 0) (pa_cons (pe_dget hu (pv 8) pe_str (fun _ _ => rfl)) (pa_cons (pe_tup pa_nil) pa_nil)))) pa_nil)))))) pss_nil)
        (pss_cons (ps_if (pt_cmpR op_eq (pv 1) pe_str (nomark _)) (pss_one (ps_ret (pe_tup (pa_cons (pv 1) (pa_cons (pv 3) (pa_cons (pv 6) pa_nil)))))) pss_nil)
        (pss_cons (ps_if (pt_cmpR op_eq (pv 1) pe_str (nomark _)) (pss_one (ps_ret (pe_tup (pa_cons (pv 1) (pa_cons (pv 3) (pa_cons (pe_call c_law_pick.G (hr.mono (by decide)) (by rfl) c_law_pick.m c_law_pick.kp c_law_pick.b .nil pass0 (pa_cons (pv 0) (pa_cons (pe_dget hu (pv 8) pe_str (fun _ _ => rfl)) (pa_cons pe_str pa_nil)))) pa_nil)))))) pss_nil)
        (pss_cons (ps_if (pt_cmpR op_eq (pv 1) pe_str (nomark _)) (pss_one (ps_ret (pe_tup (pa_cons (pv 1) (pa_cons (pv 3) (pa_cons (pv 6) (pa_cons (pv 7) pa_nil))))))) pss_nil)
        (pss_cons (ps_set (i := 9) sc_law_limit_step.nd rfl (Or.inl rfl) (pe_call c_law_pick.G (hr.mono (by decide)) (by rfl) c_law_pick.m c_law_pick.kp c_law_pick.b .nil pass0 (pa_cons (pv 0) (pa_cons (pe_dget hu (pv 8) pe_str (fun _ _ => rfl)) (pa_cons (pe_tup (pa_cons pe_str (pa_cons (pv 7) pa_nil))) pa_nil)))))
        (pss_one (ps_ret (pe_tup (pa_cons (pv 1) (pa_cons (pv 3) (pa_cons (pe_ix ix_tup (pv 9) pe_int (fun _ _ => rfl)) (pa_cons (pe_ix ix_tup (pv 9) pe_int (fun _ _ => rfl)) pa_nil))))))))))))))))), ?_⟩
    have lcn : (colNs cols).length = cols.length := by unfold colNs; rw [List.length_map]
    obtain ⟨co1, co2, co3⟩ := co
    have hNs : ∀ x ∈ (colNs cols).drop 1, PyData.strOk x = true := fun x hx => colN_ok co1 (List.mem_of_mem_drop hx)
    refine ⟨_, rfl, C, cols, rfl, CA, by omega, fun N H1 hN0 s1 hN => ⟨_, rfl, N, _, rfl, SqL.of hN, fun NL hNL => ?_⟩⟩
    rw [cut_tail, ← List.map_drop]
    have e2 := same_new hNL (.lst (((colNs cols).drop 1).map V.str))
    have S2 := s1.trans e2
    have kN := strs_ok hNs
    refine ⟨_, rfl, _, rfl, t, c, NL, cs, _, ((colNs cols).drop 1).map (fun x => D.s (.str x)), _, rfl, T.mono S2, upd_same, strs_tp _, kN.1, kN.2, (by rw [List.length_map, List.length_drop]; omega), fun v1 H2 hv1 T2 x2 => ?_⟩
    obtain ⟨n, rfl, hn⟩ := pick_str hv1 (by decide +kernel) hNs
    have X2 := (SameX.of S2).trans x2
    have hSt : S ≠ t := A.tS.1.symm
    have hS2 := X2 _ _ A.sk hSt
    have hTs : ∀ x ∈ schN s, PyData.strOk x = true := fun x hx => by
      obtain ⟨p, hp, rfl⟩ := List.mem_map.mp hx
      exact (ok p hp).nm.str
    refine ⟨_, rfl, _, rfl, S, schK s, schN s, rfl, .inl hS2, sch_keys s, (by unfold schN; rw [List.length_map]; omega), fun ys P hper _ hP => ?_⟩
    have e3 := same_new hP (.lst (ys.map V.str))
    have kY := strs_ok (fun x hx => hTs x (hper.mem_iff.mp hx))
    have ly : ys.length ≤ 6 := by rw [hper.length_eq]; unfold schN; rw [List.length_map]; exact l6
    refine ⟨t, c, P, cs, _, ys.map (fun x => D.s (.str x)), _, rfl, T2.mono e3, upd_same, strs_tp _, kY.1, kY.2, (by rw [List.length_map]; omega), fun v2 H3 hv2 T3 x3 => ?_⟩
    obtain ⟨o, rfl, ho⟩ := pick_str hv2 (by decide +kernel) (fun x hx => hTs x (hper.mem_iff.mp hx))
    have X3 := X2.trans ((SameX.of e3).trans x3)
    have hS3 := X3 _ _ A.sk hSt
    refine ⟨_, rfl, S, rfl, .inl ⟨_, .inl hS3⟩, _, rfl, fun dd hdd => ⟨(by show 0 ≤ sizeLine; decide), fun k0 hk0 => ⟨(by show 0 ≤ sizeLine; decide), fun u0 hu0 => ⟨(by show 0 ≤ sizeLine; decide), fun r0 hr0 => ?_⟩⟩⟩⟩
    have m0 := same_new hdd (.dK [])
    have m1 := same_new hk0 (.lst [])
    have m2 := same_new hu0 (.lst [])
    have m3 := same_new hr0 (.lst [])
    have kk := m3 _ _ (m2 _ _ upd_same)
    have ku := m3 _ _ (@upd_same _ u0 (.lst []))
    have kr : (upd (upd (upd (upd H3 dd (.dK [])) k0 (.lst [])) u0 (.lst [])) r0 (.lst [])) r0 = some (.lst []) := upd_same
    have kd := m3 _ _ (m2 _ _ (m1 _ _ (@upd_same _ dd (.dK []))))
    have M := m0.trans (m1.trans (m2.trans m3))
    have dk0 : dd ≠ k0 := ne_of_none upd_same hk0
    have du0 : dd ≠ u0 := ne_of_none (m1 _ _ upd_same) hu0
    have dr0 : dd ≠ r0 := ne_of_none (m2 _ _ (m1 _ _ upd_same)) hr0
    generalize hH : (upd (upd (upd (upd H3 dd (.dK [])) k0 (.lst [])) u0 (.lst [])) r0 (.lst [])) = H7 at *
    refine ⟨kd, descE k0 u0 r0, rfl, (by show 3 ≤ 15; decide), ?_⟩
    rw [merge_descE]
    have mf : Same H3 (upd H7 dd (.dK (descE k0 u0 r0))) := same_upd hdd _ M
    have P0 : ∀ p, PartI (upd H7 dd (.dK (descE k0 u0 r0))) dd p := parts_none upd_same (by rw [upd_ne dk0.symm]; exact kk) (by rw [upd_ne du0.symm]; exact ku) (by rw [upd_ne dr0.symm]; exact kr)
    generalize hH8 : upd H7 dd (.dK (descE k0 u0 r0)) = H8 at *
    have X8 := X3.trans (SameX.of mf)
    have T8 := T3.mono mf
    have A8 := A.monoX T X8
    refine ⟨_, DGet.k (k := (Sum.inr tn : Key)) (X8 _ _ A.sk hSt), ?_⟩
    obtain ⟨d, hd, PI⟩ : ∃ d, (valV (schK s) (Sum.inr tn : Key)).getD (.ref dd) = .ref d ∧ ∀ p, PartI H8 d p := by
      cases e : valV (schK s) (Sum.inr tn : Key) with
      | none => exact ⟨dd, rfl, P0⟩
      | some v =>
        have hin : tn ∈ schN s := by
          have := sch_some (s := s) (n := tn)
          rw [e] at this
          simpa using this.symm
        obtain ⟨p, hp, rfl⟩ := sch_in hin
        rw [sch_get A.nm hp] at e
        cases e
        exact ⟨p.1.d, rfl, fun q => (A8.ds p hp).parts (ok p hp) q⟩
    rw [hd]
    have CA8 : ColsAt H8 C cols := by
      obtain ⟨xc, c1, c2⟩ := CA
      exact ⟨xc, X8 _ _ c1 (T.notL c1), c2.mono (KeepT.ofX T X8)⟩
    simp only [kinds6, List.mem_cons, List.not_mem_nil, or_false] at hk
    rcases hk with rfl | rfl | rfl | rfl | rfl | rfl
    · refine ⟨_, rfl, rfl, _, rfl, iteDT rfl ⟨_, rfl, _, rfl, _, rfl, _, rfl, t, c, C, cs, cols, rfl, T8, CA8, by omega, by omega, fun v cond H9 hv ok1 l1 l2 T9 x9 => ⟨(by show 3 ≤ sizeLine; decide), fun p hp => ?_⟩⟩⟩
      have e9 := same_new hp (.tup [.str "add_check", .str tn, v])
      exact q p (.addC tn cond) _ (.t upd_same (.cons (.s rfl) (.cons (.s rfl) (.cons (hv.mono (KeepT.of e9)) .nil)))) ⟨⟨l1, l2, fun a ha cl hcl => (ok1 a ha cl hcl).text co1⟩, ht⟩ (T9.mono e9) (X8.trans (x9.trans (SameX.of e9)))
    · obtain ⟨b, xs, is, g1, g2, g3, g4, g5⟩ := PI .c
      have ki := its_ok fun i hi => (g4 i hi).1
      have lx : xs.length ≤ 4 := by rw [g3.length, List.length_map]; exact g5
      refine ⟨_, rfl, rfl, _, rfl, iteDF (by decide +kernel) ⟨_, rfl, rfl, _, rfl, iteDT rfl ⟨_, rfl, _, rfl, _, rfl, _, rfl, d, _, rfl, g1, (by show 0 ≤ sizeLine; decide), fun e he => ?_⟩⟩⟩
      have e1 := same_new he (.tup [])
      refine ⟨t, c, b, cs, xs, is.map itD, _, rfl, T8.mono e1, e1 _ _ g2, g3.mono (KeepT.of e1), ki.1, Nat.le_trans ki.2 (by decide), by omega, fun v H9 hv T9 x9 => ⟨(by show 3 ≤ sizeLine; decide), fun p hp => ?_⟩⟩
      obtain ⟨i, i1, i2, i3⟩ := pick_it hv ⟨.c [], ⟨by decide, fun a ha => (by cases ha), fun a ha => (by cases ha)⟩, rfl, .t (x9 _ _ upd_same (T8.fresh he).1) .nil⟩ g4
      have e9 := same_new hp (.tup [.str "drop_check", .str tn, v])
      cases i with
      | c x => exact q p (.dropC tn x) _ (.t upd_same (.cons (.s rfl) (.cons (.s rfl) (.cons (i3.mono (KeepT.of e9)) .nil)))) ⟨i1, ht⟩ (T9.mono e9) (X8.trans ((SameX.of e1).trans (x9.trans (SameX.of e9))))
      | u x => cases i2
      | r x => cases i2
    · refine ⟨_, rfl, rfl, _, rfl, iteDF (by decide +kernel) ⟨_, rfl, rfl, _, rfl, iteDF (by decide +kernel) ⟨_, rfl, rfl, _, rfl, iteDT rfl ⟨_, rfl, _, rfl, _, rfl, (by show 3 ≤ sizeLine; decide), fun p hp => ?_⟩⟩⟩⟩
      have e9 := same_new hp (.tup [.str "add_unique", .str tn, .str n])
      exact q p (.addU tn n) _ (.t upd_same (.cons (.s rfl) (.cons (.s rfl) (.cons (.s rfl) .nil)))) ⟨hn, ht⟩ (T8.mono e9) (X8.trans (SameX.of e9))
    · obtain ⟨b, xs, is, g1, g2, g3, g4, g5⟩ := PI .u
      have ki := its_ok fun i hi => (g4 i hi).1
      have lx : xs.length ≤ 4 := by rw [g3.length, List.length_map]; exact g5
      refine ⟨_, rfl, rfl, _, rfl, iteDF (by decide +kernel) ⟨_, rfl, rfl, _, rfl, iteDF (by decide +kernel) ⟨_, rfl, rfl, _, rfl, iteDF (by decide +kernel) ⟨_, rfl, rfl, _, rfl, iteDT rfl ⟨_, rfl, _, rfl, _, rfl, _, rfl, d, _, rfl, g1, ?_⟩⟩⟩⟩⟩
      refine ⟨t, c, b, cs, xs, is.map itD, _, rfl, T8, g2, g3, ki.1, Nat.le_trans ki.2 (by decide), by omega, fun v H9 hv T9 x9 => ⟨(by show 3 ≤ sizeLine; decide), fun p hp => ?_⟩⟩
      obtain ⟨i, i1, i2, i3⟩ := pick_it hv ⟨.u "nowhere", (by show PyData.strOk "nowhere" = true; decide +kernel), rfl, .s rfl⟩ g4
      have e9 := same_new hp (.tup [.str "drop_unique", .str tn, v])
      cases i with
      | u x => exact q p (.dropU tn x) _ (.t upd_same (.cons (.s rfl) (.cons (.s rfl) (.cons (i3.mono (KeepT.of e9)) .nil)))) ⟨i1, ht⟩ (T9.mono e9) (X8.trans (x9.trans (SameX.of e9)))
      | c x => cases i2
      | r x => cases i2
    · refine ⟨_, rfl, rfl, _, rfl, iteDF (by decide +kernel) ⟨_, rfl, rfl, _, rfl, iteDF (by decide +kernel) ⟨_, rfl, rfl, _, rfl, iteDF (by decide +kernel) ⟨_, rfl, rfl, _, rfl, iteDF (by decide +kernel) ⟨_, rfl, rfl, _, rfl, iteDT rfl ⟨_, rfl, _, rfl, _, rfl, _, rfl, (by show 4 ≤ sizeLine; decide), fun p hp => ?_⟩⟩⟩⟩⟩⟩
      have e9 := same_new hp (.tup [.str "add_reference", .str tn, .str n, .str o])
      exact q p (.addR tn n o) _ (.t upd_same (.cons (.s rfl) (.cons (.s rfl) (.cons (.s rfl) (.cons (.s rfl) .nil))))) ⟨⟨hn, ho⟩, ht⟩ (T8.mono e9) (X8.trans (SameX.of e9))
    · obtain ⟨b, xs, is, g1, g2, g3, g4, g5⟩ := PI .r
      have ki := its_ok fun i hi => (g4 i hi).1
      have lx : xs.length ≤ 4 := by rw [g3.length, List.length_map]; exact g5
      refine ⟨_, rfl, rfl, _, rfl, iteDF (by decide +kernel) ⟨_, rfl, rfl, _, rfl, iteDF (by decide +kernel) ⟨_, rfl, rfl, _, rfl, iteDF (by decide +kernel) ⟨_, rfl, rfl, _, rfl, iteDF (by decide +kernel) ⟨_, rfl, rfl, _, rfl, iteDF (by decide +kernel) ⟨_, rfl, _, rfl, d, _, rfl, g1, _, rfl, (by show 2 ≤ sizeLine; decide), fun e he => ?_⟩⟩⟩⟩⟩⟩
      have e1 := same_new he (.tup [.str "nowhere", .str o])
      refine ⟨t, c, b, cs, xs, is.map itD, _, rfl, T8.mono e1, e1 _ _ g2, g3.mono (KeepT.of e1), ki.1, Nat.le_trans ki.2 (by decide), by omega, fun v H9 hv T9 x9 => ?_⟩
      obtain ⟨i, i1, i2, i3⟩ := pick_it hv ⟨.r ("nowhere", o), ⟨(by show PyData.strOk "nowhere" = true; decide +kernel), ho⟩, rfl, .t (x9 _ _ upd_same (T8.fresh he).1) (.cons (.s rfl) (.cons (.s rfl) .nil))⟩ g4
      cases i with
      | r x =>
        obtain ⟨fa, rfl, hfa⟩ := rf_at i3
        refine ⟨_, rfl, _, rfl, _, rfl, fa, _, 0, _, rfl, rfl, SqT.of hfa, atI_nat (j := 0) rfl, _, rfl, fa, _, 1, _, rfl, rfl, SqT.of hfa, atI_nat (j := 1) rfl, (by show 4 ≤ sizeLine; decide), fun p hp => ?_⟩
        have e9 := same_new hp (.tup [.str "drop_reference", .str tn, .str x.1, .str x.2])
        exact q p (.dropR tn x.1 x.2) _ (.t upd_same (.cons (.s rfl) (.cons (.s rfl) (.cons (.s rfl) (.cons (.s rfl) .nil))))) ⟨i1, ht⟩ (T9.mono e9) (X8.trans ((SameX.of e1).trans (x9.trans (SameX.of e9))))
      | c x => cases i2
      | u x => cases i2)
theorem ok_law_step {f : Addr} {fd : FuncData} (k : Kn K mg "_law_step" s_law_step ["tape", "schema", "kinds"] f fd) (z : Z K mg)
    {g_law_take : Addr} {gd_law_take : FuncData} (c_law_take : Cal P w K mg base 1 "_law_take" ["tape", "many"] (spTake) g_law_take gd_law_take)
    {g_law_pick : Addr} {gd_law_pick : FuncData} (c_law_pick : Cal P w K mg base 2 "_law_pick" ["tape", "items", "other"] (spPick) g_law_pick gd_law_pick)
    {g_law_limit_step : Addr} {gd_law_limit_step : FuncData} (c_law_limit_step : Cal P w K mg base 7 "_law_limit_step" ["tape", "kind", "schema", "table", "columns"] (spLimitStep) g_law_limit_step gd_law_limit_step) :
    Cal P w K mg base 8 "_law_step" ["tape", "schema", "kinds"] (spLimStep) f fd := k.cal (by
  refine k.F.ok sc_law_step (fun vs H Q E h => ?_) (fun cdv A outer s H vs Q E hr h => ?_)
  · obtain ⟨t, c, S, K, cs, s, rfl, _⟩ := h; rfl
  · obtain ⟨t, c, S, K, cs, s, rfl, T, A, ok, l6, hK, q⟩ := h
    have hu := hu_of hr
    have hSt : S ≠ t := A.tS.1.symm
    have hKt := T.notL hK
    refine ⟨_, (pss_cons (ps_set (i := 3) sc_law_step.nd rfl (Or.inl rfl) (pe_ix ix_list (pv 2) (pe_call c_law_take.G (hr.mono (by decide)) (by rfl) c_law_take.m c_law_take.kp c_law_take.b .nil pass0 (pa_cons (pv 0) (pa_cons (pe_callB call_len_seq (by rfl) z.len (by decide +kernel) (pa_cons (pv 2) pa_nil)) pa_nil))) (fun _ _ => rfl)))
        (pss_cons (ps_set (i := 4) sc_law_step.nd rfl (Or.inl rfl) (pe_call c_law_pick.G (hr.mono (by decide)) (by rfl) c_law_pick.m c_law_pick.kp c_law_pick.b .nil pass0 (pa_cons (pv 0) (pa_cons (pe_callB (call_sortedD rfl) (by rfl) z.sorted (by decide +kernel) (pa_cons (pv 1) pa_nil)) (pa_cons pe_str pa_nil)))))
        (pss_cons (ps_set (i := 5) sc_law_step.nd rfl (Or.inl rfl) (pe_lst (pa_cons (pe_tup (pa_cons pe_str (pa_cons pe_str (pa_cons pe_bl pa_nil)))) (pa_cons (pe_tup (pa_cons pe_str (pa_cons pe_str (pa_cons pe_bl pa_nil)))) pa_nil))))
        (pss_cut (ps_if (pt_cmp (pc_din hu (pv 4) (pv 1))) (pss_one (ps_set (i := 5) sc_law_step.nd rfl (Or.inl rfl) (pe_dget hu (pe_dget hu (pv 1) (pv 4) (fun _ _ => rfl)) pe_str (fun _ _ => rfl)))) pss_nil)
        (pss_cons (ps_if (pt_cmpR op_in_seq (pv 3) (pe_lst (pa_cons pe_str (pa_cons pe_str (pa_cons pe_str (pa_cons pe_str (pa_cons pe_str (pa_cons pe_str (pa_cons pe_str pa_nil)))))))) (by rfl)) (pss_one ps_no) pss_nil)
        (pss_cons (ps_if (PW.pt (pw_or (pt_cmpR op_in_str pe_str (pv 3) (by rfl)) (pw_or (pt_cmpR op_in_str pe_str (pv 3) (by rfl)) (pw_or1 (pt_cmpR op_in_str pe_str (pv 3) (by rfl)))))) (pss_one (ps_ret (pe_call c_law_limit_step.G (hr.mono (by decide)) (by rfl) c_law_limit_step.m c_law_limit_step.kp c_law_limit_step.b .nil pass0 (pa_cons (pv 0) (pa_cons (pv 3) (pa_cons (pv 1) (pa_cons (pv 4) (pa_cons (pv 5) pa_nil)))))))) pss_nil)
        (pss_one ps_no))))))), ?_⟩
    refine ⟨_, rfl, _, rfl, _, rfl, K, _, rfl, .inl (SqL.of hK), t, c, cs, 6, rfl, T, by decide, by decide +kernel, fun g H1 g0 g1 T1 x1 => ?_⟩
    have hg : g.toNat < kinds6.length := by show g.toNat < 6; omega
    have eg : kinds6[g.toNat]? = some kinds6[g.toNat] := List.getElem?_eq_getElem hg
    have hk : kinds6[g.toNat] ∈ kinds6 := List.getElem_mem hg
    generalize kinds6[g.toNat] = k at eg hk
    refine ⟨K, _, g, .str k, rfl, rfl, SqL.of (x1 _ _ hK hKt), at_of (j := g.toNat) (by omega) (by rw [List.getElem?_map, eg]; rfl), ?_⟩
    have hS1 := x1 _ _ A.sk hSt
    have hTs : ∀ x ∈ schN s, PyData.strOk x = true := fun x hx => by
      obtain ⟨p, hp, rfl⟩ := List.mem_map.mp hx
      exact (ok p hp).nm.str
    refine ⟨_, rfl, _, rfl, S, schK s, schN s, rfl, .inl hS1, sch_keys s, (by unfold schN; rw [List.length_map]; omega), fun ys P hper _ hP => ?_⟩
    have e3 := same_new hP (.lst (ys.map V.str))
    have kY := strs_ok (fun x hx => hTs x (hper.mem_iff.mp hx))
    have ly : ys.length ≤ 6 := by rw [hper.length_eq]; unfold schN; rw [List.length_map]; exact l6
    refine ⟨t, c, P, cs, _, ys.map (fun x => D.s (.str x)), _, rfl, T1.mono e3, upd_same, strs_tp _, kY.1, kY.2, (by rw [List.length_map]; omega), fun v2 H3 hv2 T3 x3 => ?_⟩
    obtain ⟨tn, rfl, ht⟩ := pick_str hv2 (by decide +kernel) (fun x hx => hTs x (hper.mem_iff.mp hx))
    have X3 := x1.trans ((SameX.of e3).trans x3)
    refine ⟨(by show 3 ≤ sizeLine; decide), fun c1 hc1 => ⟨(by show 3 ≤ sizeLine; decide), fun c2 hc2 => ⟨(by show 2 ≤ sizeLine; decide), fun C hC => ?_⟩⟩⟩
    have m1 := same_new hc1 (.tup [.str "id", .str "int", .bl false])
    have m2 := same_new hc2 (.tup [.str "a", .str "text", .bl true])
    have m3 := same_new hC (.lst [.ref c1, .ref c2])
    have M := m1.trans (m2.trans m3)
    have CA : ColsAt (upd (upd (upd H3 c1 (.tup [.str "id", .str "int", .bl false])) c2 (.tup [.str "a", .str "text", .bl true])) C (.lst [.ref c1, .ref c2])) C cols2 :=
      ⟨_, upd_same, .cons (.t (m3 _ _ (m2 _ _ upd_same)) (.cons (.s rfl) (.cons (.s rfl) (.cons (.s rfl) .nil)))) (.cons (.t (m3 _ _ upd_same) (.cons (.s rfl) (.cons (.s rfl) (.cons (.s rfl) .nil)))) .nil)⟩
    generalize hH : upd (upd (upd H3 c1 (.tup [.str "id", .str "int", .bl false])) c2 (.tup [.str "a", .str "text", .bl true])) C (.lst [.ref c1, .ref c2]) = H4 at *
    have X4 := X3.trans (SameX.of M)
    have T4 := T3.mono M
    have A4 := A.monoX T X4
    refine ⟨fun σ H' => ∃ C' cols, σ = [some (.ref t), some (.ref S), some (.ref K), some (.str k), some (.str tn), some (.ref C')] ∧ ColsAt H' C' cols ∧ ColsOkD cols ∧ TapeAt H' t c cs ∧ SameX t H H', ?_, ?_⟩
    · refine ⟨_, rfl, _, rfl, S, _, rfl, DGet.k (k := (Sum.inr tn : Key)) A4.sk, _, rfl, ?_⟩
      rw [sch_some]
      refine ifD (fun h1 => ?_) (fun h1 => ?_)
      · obtain ⟨p, hp, rfl⟩ := sch_in h1
        refine ⟨_, rfl, _, rfl, S, _, rfl, sch_getK A4.sk A.nm hp, p.1.d, _, rfl, (A4.ds p hp).gc, ?_⟩
        exact ⟨p.1.c, p.2.cols, rfl, (A4.ds p hp).co, ⟨(ok p hp).co, (ok p hp).l0, (ok p hp).l8⟩, T4, X4⟩
      · exact ⟨C, cols2, rfl, CA, cols2_ok, T4, X4⟩
    · rintro σ H5 ⟨C', cols, rfl, CA', co, T5, X5⟩
      refine ⟨_, rfl, (by show 7 ≤ sizeLine; decide), fun e he => ⟨e, _, rfl, .inl (SqL.of upd_same), rfl, flat_strs [("rename_column" : Str), ("reorder" : Str), ("add_column" : Str), ("drop_column" : Str), ("convert" : Str), ("split_column" : Str), ("merge_columns" : Str)], _, rfl, iteBF (six_no hk) ?_⟩⟩
      have e1 := same_new he (.lst [.str "rename_column", .str "reorder", .str "add_column", .str "drop_column", .str "convert", .str "split_column", .str "merge_columns"])
      have fin : tRet (tCall spLimitStep [] E0 (tCons (tVar 0) (tCons (tVar 3) (tCons (tVar 1) (tCons (tVar 4) (tCons (tVar 5) tNil)))))) { nx := fun σ H' => False, rt := Q } [some (V.ref t), some (V.ref S), some (V.ref K), some (V.str k), some (V.str tn), some (V.ref C')] (upd H5 e (.lst [.str "rename_column", .str "reorder", .str "add_column", .str "drop_column", .str "convert", .str "split_column", .str "merge_columns"])) :=
        ⟨_, rfl, _, rfl, _, rfl, _, rfl, _, rfl, t, c, S, C', cs, s, k, tn, cols, rfl, T5.mono e1, A.monoX T (X5.trans (SameX.of e1)), ok, l6, hk, ht, CA'.mono (KeepT.of e1) (fun o => e1 _ _), co, fun st l H6 h1 h2 h3 h4 => q st l H6 h1 h2 h3 (X5.trans ((SameX.of e1).trans h4))⟩
      rcases six_in hk with h | ⟨h, h2⟩ | ⟨h, h2, h3⟩
      · exact ⟨_, rfl, _, _, rfl, rfl, _, rfl, iteBT h (iteT fin)⟩
      · exact ⟨_, rfl, _, _, rfl, rfl, _, rfl, iteBF h ⟨_, rfl, _, _, rfl, rfl, _, rfl, iteBT h2 (iteT fin)⟩⟩
      · exact ⟨_, rfl, _, _, rfl, rfl, _, rfl, iteBF h ⟨_, rfl, _, _, rfl, rfl, _, rfl, iteBF h2 ⟨_, rfl, _, _, rfl, rfl, _, rfl, iteBT h3 fin⟩⟩⟩)

theorem no_copy {f : Addr} {fd : FuncData} : FnOk P w K mg base CX0 0 f fd ["thing"] (spCopyG 0) := by
  have no : ∀ vs H Q E, ¬ spCopyG 0 vs H Q E := fun vs H Q E h => by
    obtain ⟨x, g, D, _, _, h1, _⟩ := h
    exact Nat.not_lt_zero _ h1
  exact ⟨fun vs H Q E h => absurd h (no vs H Q E), fun A outer s H args us vs Q E _ _ _ _ h => absurd h (no vs H Q E)⟩
theorem ok_copy {n : Nat} {f : Addr} {fd : FuncData} (k : Kn K mg "_law_copy" s_law_copy ["thing"] f fd) (z : Z K mg)
    (c_law_copy : Cal P w K mg base n "_law_copy" ["thing"] (spCopyG n) f fd) : Cal P w K mg base (n + 1) "_law_copy" ["thing"] (spCopyG (n + 1)) f fd := k.cal (by
  refine k.F.ok sc_law_copy (fun vs H Q E h => ?_) (fun cdv A outer s H vs Q E hr h => ?_)
  · obtain ⟨x, g, D, rfl, _⟩ := h; rfl
  · obtain ⟨x, g, D, rfl, hx, hdep, q⟩ := h
    have hu := hu_of hr
    refine ⟨_, (pss_cons (ps_if (pt_val (pe_callB call_isi (by rfl) z.isinstance (by decide +kernel) (pa_cons (pv 0) (pa_cons (pe_bltn (v := .ty "list") (u := .type "list") (by rfl) z.list (by decide +kernel) rfl) pa_nil)))) (pss_one (ps_ret (pe_lc (own := [("item", 3)]) (g := gName 3) (tt := tYes) (by rfl) sc_law_copy.nd (pi_list (pv 0)) (blkOk_by (own := [("item", 3)]) (N := ["thing", "result", "key", "item"]) (sc := defScope s_law_copy) (by decide +kernel)) (fun _ _ _ _ _ => pg_name (i := 3) sc_law_copy.nd rfl (Or.inl rfl)) (fun _ _ _ _ _ => pts_nil) (fun _ _ _ _ _ => (pe_call c_law_copy.G (hr.mono (by omega)) (by rfl) c_law_copy.m c_law_copy.kp c_law_copy.b .nil pass0 (pa_cons (pv 3) pa_nil)))))) pss_nil)
    (pss_cons (ps_if (pt_val (pe_callB call_isi (by rfl) z.isinstance (by decide +kernel) (pa_cons (pv 0) (pa_cons (pe_bltn (v := .ty "tuple") (u := .type "tuple") (by rfl) z.tuple (by decide +kernel) rfl) pa_nil)))) (pss_one (ps_ret (pe_callTy call_tuple_of (by rfl) z.tuple (by decide +kernel) (pa_cons (pe_lc (own := [("item", 3)]) (g := gName 3) (tt := tYes) (by rfl) sc_law_copy.nd (pi_tup (pv 0)) (blkOk_by (own := [("item", 3)]) (N := ["thing", "result", "key", "item"]) (sc := defScope s_law_copy) (by decide +kernel)) (fun _ _ _ _ _ => pg_name (i := 3) sc_law_copy.nd rfl (Or.inl rfl)) (fun _ _ _ _ _ => pts_nil) (fun _ _ _ _ _ => (pe_call c_law_copy.G (hr.mono (by omega)) (by rfl) c_law_copy.m c_law_copy.kp c_law_copy.b .nil pass0 (pa_cons (pv 3) pa_nil)))) pa_nil)))) pss_nil)
    (pss_cons (ps_if (pt_val (pe_callB call_isi (by rfl) z.isinstance (by decide +kernel) (pa_cons (pv 0) (pa_cons (pe_bltn (v := .ty "dict") (u := .type "dict") (by rfl) z.dict (by decide +kernel) rfl) pa_nil)))) (pss_cons (ps_set (i := 1) sc_law_copy.nd rfl (Or.inl rfl) pe_dnewK)
    (pss_cons (ps_lock (ps_for PassesOwn.never rfl (pi_keys (pv 0)) (pg_name (i := 2) sc_law_copy.nd rfl (Or.inl rfl))
    (pss_one (ps_dput hu (pv 1) (pv 2) (pe_call c_law_copy.G (hr.mono (by omega)) (by rfl) c_law_copy.m c_law_copy.kp c_law_copy.b .nil pass0 (pa_cons (pe_dget hu (pv 0) (pv 2) (fun _ _ => rfl)) pa_nil)) rfl))))
    (pss_one (ps_ret (pv 1))))) pss_nil)
    (pss_one (ps_ret (pv 0)))))), ?_⟩
    -- the items of a list or a tuple, one by one, into a new list R
    have part : ∀ (gs : List G) (xs : List V) (R : Addr), H R = none → (∀ g ∈ gs, g.dep < n) → xs.length = gs.length → xs.length ≤ 1000 → True := fun _ _ _ _ _ _ _ => True.intro
    cases hx with
    | @s v hs =>
      obtain ⟨t, hT, c⟩ := ty_scal (K := K) (H := H) hs
      have n1 : kitB t "list" = some false ∧ kitB t "tuple" = some false ∧ kitB t "dict" = some false := by
        rcases c with ⟨_, rfl⟩ | ⟨_, rfl⟩ | ⟨_, rfl⟩ | ⟨_, rfl⟩ <;> exact ⟨by decide +kernel, by decide +kernel, by decide +kernel⟩
      refine ⟨_, rfl, _, _, _, _, false, rfl, .ty _, hT, kit_ty n1.1, _, rfl, ?_⟩
      refine ⟨_, rfl, _, _, _, _, false, rfl, .ty _, hT, kit_ty n1.2.1, _, rfl, ?_⟩
      refine ⟨_, rfl, _, _, _, _, false, rfl, .ty _, hT, kit_ty n1.2.2, _, rfl, ?_⟩
      exact ⟨_, rfl, q _ [] _ (.s hs) (Same.refl _) (fun a h => by cases h) List.nodup_nil⟩
    | @l a xs gs D hxa hn rx =>
      have hA : TyX K H (.ref a) (.type "list") := .base (.lst hxa)
      have hd : ∀ g ∈ gs, g.dep < n := fun g hg => by have := depL_mem hg; simp only [G.dep] at hdep; omega
      refine ⟨_, rfl, _, _, _, _, true, rfl, .ty _, hA, kit_ty (by decide +kernel), _, rfl, ?_⟩
      refine ⟨_, rfl, a, rfl, ⟨_, SqL.of hxa⟩, fun R hR => inner walk_list (fun i H' => ∃ ys E, H' R = some (.lst ys) ∧ GpL H' ys (gs.take i) E ∧ Same H H' ∧ (∀ b ∈ E, H b = none ∧ b ≠ R) ∧ E.Nodup) ⟨[], [], upd_same, .nil, same_new hR _, (fun b h => by cases h), List.nodup_nil⟩ (fun i H' _ ⟨_, _, _, _, s, _⟩ => SqL.of (s _ _ hxa)) ?_ ?_⟩
      · rintro i x H1 H1' hi ⟨ys, E, R1, r1, s1, f1, nd1⟩ ⟨rfl, ex⟩
        obtain ⟨g1, D1, e1, p1, i1⟩ := rx.get ex
        refine ⟨rfl, _, rfl, x, g1, D1, rfl, p1.mono s1, hd g1 (List.mem_of_getElem? e1), fun x' D' H2 p2 s2 f2 nd2 => ?_⟩
        have R2 := s2 _ _ R1
        have ku : KeepT H2 (upd H2 R (.lst (ys ++ [x']))) := KeepT.upd (fun zs z => by rw [R2] at z; cases z)
        have nR : ∀ b ∈ D', b ≠ R := fun b hb e => by subst e; have := f2 _ hb; rw [R1] at this; cases this
        refine ⟨ys, R2, (by rw [r1.length, List.length_take]; exact small1000 (by omega)), ys ++ [x'], E ++ D', upd_same, ?_, same_upd hR _ (s1.trans s2), ?_, List.nodup_append.mpr ⟨nd1, nd2, fun x hx y hy e => r1.there x hx (f2 x (e ▸ hy))⟩⟩
        · rw [List.take_add_one, e1]
          exact GpL.snoc ((r1.mono s2).frame ku fun b hb o ho => by rw [upd_ne (f1 b hb).2]; exact ho) (p2.frame ku fun b hb o ho => by rw [upd_ne (nR b hb)]; exact ho)
        · intro b hb
          rcases List.mem_append.mp hb with hb | hb
          · exact f1 b hb
          · exact ⟨s1.free (f2 b hb), nR b hb⟩
      · rintro H1 ⟨ys, E, R1, r1, s1, f1, nd1⟩
        rw [List.take_of_length_le (by rw [rx.length]; omega)] at r1
        refine q (.ref R) (R :: E) H1 (.l R1 (by rw [r1.length, ← rx.length]; exact hn) r1) s1 (fun b hb => ?_) (List.nodup_cons.mpr ⟨fun h => (f1 R h).2 rfl, nd1⟩)
        rcases List.mem_cons.mp hb with rfl | hb
        · exact hR
        · exact (f1 b hb).1
    | @t a xs gs D hxa hn rx =>
      have hA : TyX K H (.ref a) (.type "tuple") := .base (.tup hxa)
      have hd : ∀ g ∈ gs, g.dep < n := fun g hg => by have := depL_mem hg; simp only [G.dep] at hdep; omega
      refine ⟨_, rfl, _, _, _, _, false, rfl, .ty _, hA, kit_ty (by decide +kernel), _, rfl, ?_⟩
      refine ⟨_, rfl, _, _, _, _, true, rfl, .ty _, hA, kit_ty (by decide +kernel), _, rfl, ?_⟩
      refine ⟨_, rfl, a, rfl, ⟨_, SqT.of hxa⟩, fun R hR => inner walk_tup (fun i H' => ∃ ys E, H' R = some (.lst ys) ∧ GpL H' ys (gs.take i) E ∧ Same H H' ∧ (∀ b ∈ E, H b = none ∧ b ≠ R) ∧ E.Nodup) ⟨[], [], upd_same, .nil, same_new hR _, (fun b h => by cases h), List.nodup_nil⟩ (fun i H' _ ⟨_, _, _, _, s, _⟩ => SqT.of (s _ _ hxa)) ?_ ?_⟩
      · rintro i x H1 H1' hi ⟨ys, E, R1, r1, s1, f1, nd1⟩ ⟨rfl, ex⟩
        obtain ⟨g1, D1, e1, p1, i1⟩ := rx.get ex
        refine ⟨rfl, _, rfl, x, g1, D1, rfl, p1.mono s1, hd g1 (List.mem_of_getElem? e1), fun x' D' H2 p2 s2 f2 nd2 => ?_⟩
        have R2 := s2 _ _ R1
        have ku : KeepT H2 (upd H2 R (.lst (ys ++ [x']))) := KeepT.upd (fun zs z => by rw [R2] at z; cases z)
        have nR : ∀ b ∈ D', b ≠ R := fun b hb e => by subst e; have := f2 _ hb; rw [R1] at this; cases this
        refine ⟨ys, R2, (by rw [r1.length, List.length_take]; exact small1000 (by omega)), ys ++ [x'], E ++ D', upd_same, ?_, same_upd hR _ (s1.trans s2), ?_, List.nodup_append.mpr ⟨nd1, nd2, fun x hx y hy e => r1.there x hx (f2 x (e ▸ hy))⟩⟩
        · rw [List.take_add_one, e1]
          exact GpL.snoc ((r1.mono s2).frame ku fun b hb o ho => by rw [upd_ne (f1 b hb).2]; exact ho) (p2.frame ku fun b hb o ho => by rw [upd_ne (nR b hb)]; exact ho)
        · intro b hb
          rcases List.mem_append.mp hb with hb | hb
          · exact f1 b hb
          · exact ⟨s1.free (f2 b hb), nR b hb⟩
      · rintro H1 ⟨ys, E, R1, r1, s1, f1, nd1⟩
        rw [List.take_of_length_le (by rw [rx.length]; omega)] at r1
        refine ⟨R, ys, rfl, .inl ⟨SqL.of R1, fun p hp => ?_⟩⟩
        exact q (.ref p) E _ (.t upd_same (by rw [r1.length, ← rx.length]; exact hn) (r1.mono (same_new hp _))) (s1.trans (same_new hp _)) (fun b hb => (f1 b hb).1) nd1
    | @d a kvs kgs D hxa hn nd rx fx =>
      have hA : TyX K H (.ref a) (.type "dict") := .base (.dK hxa)
      have hd : ∀ (k : Key) (g : G), (k, g) ∈ kgs → g.dep < n := fun k g hg => by have := depK_mem hg; simp only [G.dep] at hdep; omega
      refine ⟨_, rfl, _, _, _, _, false, rfl, .ty _, hA, kit_ty (by decide +kernel), _, rfl, ?_⟩
      refine ⟨_, rfl, _, _, _, _, false, rfl, .ty _, hA, kit_ty (by decide +kernel), _, rfl, ?_⟩
      refine ⟨_, rfl, _, _, _, _, true, rfl, .ty _, hA, kit_ty (by decide +kernel), _, rfl, ?_⟩
      refine fun R hR => ?_
      have aR : a ≠ R := ne_of_none hxa hR
      have hxa1 : (upd H R (.dK [])) a = some (.dK kvs) := by rw [upd_ne aR]; exact hxa
      refine ⟨a, .dK kvs, hxa1, True.intro, fun od => ?_⟩
      refine ⟨_, rfl, a, od, rfl, .inl ⟨kvs, upd_same, for_it walk_keys (fun i σ H' => ∃ v2 ys E, σ = [some (.ref a), some (.ref R), v2, none] ∧ H' a = some (.frz od (.dK kvs)) ∧ H' R = some (.dK ys) ∧ GpK H' ys (kgs.take i) E ∧ (∀ b o, H b = some o → b ≠ a → H' b = some o) ∧ (∀ b ∈ E, H b = none ∧ b ≠ R) ∧ E.Nodup) ⟨none, [], [], rfl, upd_same, by rw [upd_ne aR.symm]; exact upd_same, .nil, fun b o h nb => by rw [upd_ne nb, upd_ne (ne_of_none h hR)]; exact h, (fun b h => by cases h), List.nodup_nil⟩ (fun i σ H' _ ⟨_, _, _, _, e, _⟩ => e) ?_ ?_⟩⟩
      · rintro i x σ H1 H1' hi ⟨v2, ys, E, rfl, a1, R1, r1, s1, f1, nd1⟩ ⟨rfl, key, wv, ek, rfl⟩
        obtain ⟨g1, D1, e1, p1, i1⟩ := rx.get ek
        have ga : DGet H1' a (kV key) (some wv) := .inl ⟨kvs, key, .inr ⟨od, a1⟩, rfl, (valV_at nd ek).symm⟩
        have p1' : Gp H1' wv g1 D1 := p1.frame (fun b zs h => s1 _ _ h (ne_of h hxa (by intro z; cases z))) (fun b hb o h => s1 _ _ h (fun e => by subst e; exact fx (i1 _ hb)))
        refine ⟨_, rfl, _, rfl, a, wv, rfl, ga, wv, g1, D1, rfl, p1', hd _ _ (List.mem_of_getElem? e1), fun x' D' H2 p2 s2 f2 nd2 => ?_⟩
        have R2 := s2 _ _ R1
        have a2 := s2 _ _ a1
        have nR : ∀ b ∈ D', b ≠ R := fun b hb e => by subst e; have := f2 _ hb; rw [R1] at this; cases this
        have lk : ys.length = i := by
          have := congrArg List.length r1.keys
          rw [List.length_map, List.length_map, List.length_take] at this
          have l2 := congrArg List.length rx.keys
          rw [List.length_map, List.length_map] at l2
          omega
        have hno : valV ys key = none := by
          cases e : valV ys key with
          | none => rfl
          | some v =>
            exfalso
            have hin := valV_in e
            rw [r1.keys, List.map_take, ← rx.keys] at hin
            obtain ⟨j, hj, ej⟩ := List.getElem_of_mem hin
            rw [List.length_take] at hj
            rw [List.getElem_take] at ej
            have b1 : (kvs.map (·.1))[j]? = some key := by rw [List.getElem?_eq_getElem (by omega), ej]
            have b2 : (kvs.map (·.1))[i]? = some key := by rw [List.getElem?_map, ek]; rfl
            have := nd_ix nd b1 b2
            omega
        refine ⟨_, rfl, _, rfl, R, _, rfl, DPut.k (k := key) R2 (by rw [lk]; exact small1000 (by omega)), ?_⟩
        rw [putK_new _ hno]
        have ku : KeepT H2 (upd H2 R (.dK (ys ++ [(key, x')]))) := KeepT.upd (fun zs z => by rw [R2] at z; cases z)
        refine ⟨_, ys ++ [(key, x')], E ++ D', rfl, by rw [upd_ne aR]; exact a2, upd_same, ?_, ?_, ?_, List.nodup_append.mpr ⟨nd1, nd2, fun x hx y hy e => r1.there x hx (f2 x (e ▸ hy))⟩⟩
        · rw [List.take_add_one, e1]
          exact GpK.snoc ((r1.mono s2).frame ku fun b hb o ho => by rw [upd_ne (f1 b hb).2]; exact ho) (p2.frame ku fun b hb o ho => by rw [upd_ne (nR b hb)]; exact ho)
        · intro b o h nb
          rw [upd_ne (ne_of_none h hR)]
          exact s2 _ _ (s1 b o h nb)
        · intro b hb
          rcases List.mem_append.mp hb with hb | hb
          · exact f1 b hb
          · refine ⟨?_, nR b hb⟩
            cases e : H b with
            | none => rfl
            | some o =>
              by_cases eb : b = a
              · subst eb; have := f2 _ hb; rw [a1] at this; cases this
              · have := s1 b o e eb
                rw [f2 _ hb] at this
                cases this
      · rintro σ H1 ⟨v2, ys, E, rfl, a1, R1, r1, s1, f1, nd1⟩
        have l2 : kvs.length = kgs.length := by have := congrArg List.length rx.keys; simpa using this
        rw [List.take_of_length_le (by omega)] at r1
        have kk : ys.map (·.1) = kvs.map (·.1) := by rw [r1.keys, rx.keys]
        have ly : ys.length = kvs.length := by have := congrArg List.length kk; simpa using this
        refine ⟨a1, ?_⟩
        have ku : KeepT H1 (upd H1 a (.dK kvs)) := KeepT.upd (fun zs z => by rw [a1] at z; cases z)
        have na : ∀ b ∈ E, b ≠ a := fun b hb e => by subst e; have := (f1 _ hb).1; rw [hxa] at this; cases this
        refine ⟨_, rfl, q (.ref R) (R :: E) _ (.d (by rw [upd_ne aR.symm]; exact R1) (by omega) (by rw [kk]; exact nd) (r1.frame ku fun b hb o ho => by rw [upd_ne (na b hb)]; exact ho) (fun h => (f1 R h).2 rfl)) ?_ ?_ ?_⟩
        · intro b o h
          by_cases e : b = a
          · subst e; rw [hxa] at h; cases h; exact upd_same
          · rw [upd_ne e]; exact s1 b o h e
        · intro b hb
          rcases List.mem_cons.mp hb with rfl | hb
          · exact hR
          · exact (f1 b hb).1
        · exact List.nodup_cons.mpr ⟨fun h => (f1 R h).2 rfl, nd1⟩)
theorem ok_law_copy {f : Addr} {fd : FuncData} (k : Kn K mg "_law_copy" s_law_copy ["thing"] f fd) (z : Z K mg) : ∀ n : Nat, Cal P w K mg base n "_law_copy" ["thing"] (spCopyG n) f fd
  | 0 => k.cal no_copy
  | n + 1 => ok_copy k z (ok_law_copy k z n)
theorem ok_law_condition_fits {f : Addr} {fd : FuncData} (k : Kn K mg "_law_condition_fits" s_law_condition_fits ["condition", "columns"] f fd) (z : Z K mg) :
    Cal P w K mg base 1 "_law_condition_fits" ["condition", "columns"] (spCondFits) f fd := k.cal (by
  refine k.F.ok sc_law_condition_fits (fun vs H Q E h => ?_) (fun cdv A outer s H vs Q E hr h => ?_)
  · obtain ⟨c, L, cond, cols, rfl, _⟩ := h; rfl
  · obtain ⟨c, L, cond, cols, rfl, hC, CA, co, hl, hg, q⟩ := h
    have hu := hu_of hr
    refine ⟨_, (pss_cons (ps_set (i := 2) sc_law_condition_fits.nd rfl (Or.inl rfl) pe_dnewK)
        (pss_cons (ps_for PassesOwn.never rfl (pi_list (pv 1)) (pg_name (i := 3) sc_law_condition_fits.nd rfl (Or.inl rfl))
        (pss_one (ps_dput hu (pv 2) (pe_ix ix_tup (pv 3) pe_int (fun _ _ => rfl)) (pe_ix ix_tup (pv 3) pe_int (fun _ _ => rfl)) rfl)))
        (pss_cons (ps_for PassesOwn.never rfl (pi_tup (pv 0)) (pg_name (i := 4) sc_law_condition_fits.nd rfl (Or.inl rfl))
        (pss_one (ps_for PassesOwn.never rfl (pi_tup (pv 4)) (pg_tup (by rfl) (pgs_cons (pg_name (i := 5) sc_law_condition_fits.nd rfl (Or.inl rfl)) (pgs_cons (pg_name (i := 6) sc_law_condition_fits.nd rfl (Or.inl rfl)) (pgs_cons (pg_name (i := 7) sc_law_condition_fits.nd rfl (Or.inl rfl)) pgs_nil))))
        (pss_cons (ps_if (pt_cmp (pc_dnotin hu (pv 5) (pv 2))) (pss_one (ps_ret pe_bl)) pss_nil)
        (pss_one (ps_if (PW.pt (pw_and (pt_cmpR op_notN (pv 7) pe_non (nomark _)) (pw_and1 (pt_cmpR op_ne (pe_callB call_isi (by rfl) z.isinstance (by decide +kernel) (pa_cons (pv 7) (pa_cons (pe_bltn (v := .ty "str") (u := .type "str") (by rfl) z.str (by decide +kernel) rfl) pa_nil))) (pe_cmpR op_eq (pe_dget hu (pv 2) (pv 5) (fun _ _ => rfl)) pe_str (nomark _)) (nomark _))))) (pss_one (ps_ret pe_bl)) pss_nil))))))
        (pss_one (ps_ret pe_bl))))), ?_⟩
    obtain ⟨xs, h1, h2⟩ := id CA
    have hx : xs.length = cols.length := by rw [h2.length, List.length_map]
    refine fun D hD => ⟨_, rfl, L, rfl, ⟨_, SqL.of (same_new hD _ _ _ h1)⟩, for_it walk_list (fun i σ H' => (∃ v3 v4 v5 v6 v7, σ = [some (.ref c), some (.ref L), some (.ref D), v3, v4, v5, v6, v7]) ∧ H' D = some (.dK (kindsD (cols.take i))) ∧ Same H H') ⟨⟨_, _, _, _, _, rfl⟩, upd_same, same_new hD _⟩ (fun i σ H' _ hh => SqL.of (hh.2.2 _ _ h1)) ?_ ?_⟩
    · rintro i x σ H1 H1' hi ⟨⟨v3, v4, v5, v6, v7, rfl⟩, hD1, s1⟩ ⟨rfl, ex⟩
      have hil : i < cols.length := by omega
      have ec : cols[i]? = some cols[i] := List.getElem?_eq_getElem hil
      obtain ⟨xs', a, k1, k2, k3⟩ := CA.get ec
      rw [h1] at k1
      cases k1
      rw [ex] at k2
      cases k2
      have k4 := s1 _ _ k3
      refine ⟨_, rfl, a, _, 1, _, rfl, rfl, SqT.of k4, atI_nat (j := 1) rfl, _, rfl, _, rfl, a, _, 0, _, rfl, rfl, SqT.of k4, atI_nat (j := 0) rfl, D, _, rfl, DPut.k (k := (Sum.inr cols[i].n : Key)) hD1 (by unfold kindsD; rw [List.length_map, List.length_take]; exact small1000 (by omega)), ⟨_, _, _, _, _, rfl⟩, ?_, same_upd hD _ s1⟩
      rw [upd_same, kinds_put co.nd ec]
    rintro σ H1 ⟨⟨v3, v4, v5, v6, v7, rfl⟩, hD1, s1⟩
    have et : cols.take xs.length = cols := List.take_of_length_le (by omega)
    rw [et] at hD1
    have hC1 := hC.mono (KeepT.of s1)
    obtain ⟨c', ys, e, hc, rc⟩ := t_at hC1
    cases e
    have hy : ys.length = cond.length := by rw [rc.length, List.length_map]
    have DG : ∀ n : Str, DGet H1 D (.str n) (valV (kindsD cols) (Sum.inr n : Key)) := fun n => DGet.k (k := (Sum.inr n : Key)) hD1
    refine ⟨_, rfl, c, rfl, ⟨_, SqT.of hc⟩, for_it walk_tup (fun i σ H' => (∃ v3 v4 v5 v6 v7, σ = [some (.ref c), some (.ref L), some (.ref D), v3, v4, v5, v6, v7]) ∧ H' = H1 ∧ (cond.take i).all (fun a => a.all (clFits cols)) = true) ⟨⟨_, _, _, _, _, rfl⟩, rfl, rfl⟩ (fun i σ H' _ hh => by rw [hh.2.1]; exact SqT.of hc) ?_ ?_⟩
    · rintro i x σ H2 H2' hi ⟨⟨v3, v4, v5, v6, v7, rfl⟩, rfl, f1⟩ ⟨rfl, ex⟩
      have hil : i < cond.length := by omega
      have ec : cond[i]? = some cond[i] := List.getElem?_eq_getElem hil
      have hm : cond[i] ∈ cond := List.getElem_mem hil
      obtain ⟨v, g1, g2⟩ := rc.get' (i := i) (d := altD cond[i]) (by rw [List.getElem?_map, ec]; rfl)
      rw [ex] at g1
      cases g1
      obtain ⟨al, ws, rfl, ha, ra⟩ := t_at g2
      have hw : ws.length = cond[i].length := by rw [ra.length, List.length_map]
      have fin : ∀ cl ∈ cond[i], clFits cols cl = false → fitsM cols cond = false := by
        intro cl hcl hf
        unfold fitsM
        rw [Bool.eq_false_iff]
        intro z
        have := List.all_eq_true.mp (List.all_eq_true.mp z _ hm) cl hcl
        rw [hf] at this
        cases this
      refine ⟨_, rfl, al, rfl, ⟨_, SqT.of ha⟩, for_it walk_tup (fun j σ H' => (∃ v5 v6 v7, σ = [some (.ref c), some (.ref L), some (.ref D), v3, some (.ref al), v5, v6, v7]) ∧ H' = H2' ∧ (cond[i].take j).all (clFits cols) = true) ⟨⟨_, _, _, rfl⟩, rfl, rfl⟩ (fun j σ H' _ hh => by rw [hh.2.1]; exact SqT.of ha) ?_ ?_⟩
      · rintro j y σ H3 H3' hj ⟨⟨v5, v6, v7, rfl⟩, rfl, f2⟩ ⟨rfl, ey⟩
        have hjl : j < cond[i].length := by omega
        have ej : cond[i][j]? = some cond[i][j] := List.getElem?_eq_getElem hjl
        have hmj : cond[i][j] ∈ cond[i] := List.getElem_mem hjl
        obtain ⟨v, g3, g4⟩ := ra.get' (i := j) (d := clD cond[i][j]) (by rw [List.getElem?_map, ej]; rfl)
        rw [ey] at g3
        cases g3
        obtain ⟨ca, rfl, hca, hsc⟩ := cl_at g4
        have fin' := fin cond[i][j] hmj
        have gg := hg _ hm _ hmj
        have st : (cond[i].take (j + 1)).all (clFits cols) = ((cond[i].take j).all (clFits cols) && clFits cols cond[i][j]) := by
          rw [List.take_add_one, ej, List.all_append]; simp
        generalize cond[i][j] = cl at *
        refine ⟨ca, _, rfl, SqT.of hca, rfl, _, _, rfl, _, _, rfl, _, _, rfl, rfl, ?_⟩
        refine ⟨_, rfl, _, rfl, D, _, rfl, DG cl.n, _, rfl, ?_⟩
        rw [kinds_get]
        by_cases hn : cl.n ∈ colNs cols
        · rw [if_pos hn]
          have hkk := kindAt_kind co hn
          have ef : clFits cols cl = fitsK cl.v (kindAt cols cl.n) true := by unfold clFits; rw [decide_eq_true hn, Bool.true_and]
          have efs := fitsK_text gg hkk
          rw [← ef] at efs
          have dg : DGet H3' D (.str cl.n) (some (.str (kindAt cols cl.n))) := by have := DG cl.n; rw [kinds_get, if_pos hn] at this; exact this
          refine iteF ⟨_, rfl, rfl, _, rfl, ?_⟩
          refine ifN (fun hnn => ?_) (fun hnn => ?_)
          · rw [show decide (cl.v ≠ V.non) = true from decide_eq_true hnn, Bool.true_and, Bool.not_not] at efs
            have step : ∀ b : Bool, b = (match cl.v with | .str _ => true | _ => false) → (if (!decide (V.bl b = V.bl (decide (V.str (kindAt cols cl.n) = V.str ("text" : Str))))) = true then Q (.bl false) H3' else ((∃ v5 v6 v7, [some (V.ref c), some (V.ref L), some (V.ref D), v3, some (V.ref al), some (V.str cl.n), some (V.str cl.op), some cl.v] = [some (V.ref c), some (V.ref L), some (V.ref D), v3, some (V.ref al), v5, v6, v7]) ∧ H3' = H3' ∧ (cond[i].take (j + 1)).all (clFits cols) = true)) := by
              intro b hb
              rw [strV_dec, blV_dec, hb]
              refine ifN (fun h6 => ?_) (fun h6 => ?_)
              · have e : clFits cols cl = false := by rw [efs]; exact decide_eq_false h6
                have e2 := fin' e
                rw [e2] at q
                exact q _ s1
              · refine ⟨⟨_, _, _, rfl⟩, rfl, ?_⟩
                rw [st, f2, efs]
                exact decide_eq_true h6
            rcases gg with e | ⟨i', e, _⟩ | ⟨y, e, _⟩
            · exact absurd e hnn
            · rw [e] at step ⊢
              exact ⟨_, rfl, _, _, _, _, false, rfl, .ty _, .base (.int _), kit_ty (by decide +kernel), _, rfl, _, rfl, D, _, rfl, dg, rfl, rfl, _, rfl, step false rfl⟩
            · rw [e] at step ⊢
              exact ⟨_, rfl, _, _, _, _, true, rfl, .ty _, .base (.str _), kit_ty (by decide +kernel), _, rfl, _, rfl, D, _, rfl, dg, rfl, rfl, _, rfl, step true rfl⟩
          · refine ⟨⟨_, _, _, rfl⟩, rfl, ?_⟩
            rw [st, f2, efs]
            have hv : cl.v = V.non := hnn
            rw [hv]
            rfl
        · rw [if_neg hn]
          have e : clFits cols cl = false := by unfold clFits; rw [decide_eq_false hn, Bool.false_and]
          have e2 := fin' e
          rw [e2] at q
          exact iteT (q _ s1)
      · rintro σ H3 ⟨⟨v5, v6, v7, rfl⟩, rfl, f2⟩
        rw [hw, List.take_length] at f2
        refine ⟨⟨_, _, _, _, _, rfl⟩, rfl, ?_⟩
        rw [List.take_add_one, ec, List.all_append, f1, Bool.true_and]
        simpa using f2
    · rintro σ H2 ⟨_, rfl, f1⟩
      rw [List.take_of_length_le (by omega)] at f1
      have e : fitsM cols cond = true := f1
      rw [e] at q
      exact q _ s1)
theorem ok_law_leads {f : Addr} {fd : FuncData} (k : Kn K mg "_law_leads" s_law_leads ["schema", "table"] f fd) (z : Z K mg) :
    Cal P w K mg base 1 "_law_leads" ["schema", "table"] (spIsReferenced) f fd := k.cal (by
  refine k.F.ok sc_law_leads (fun vs H Q E h => ?_) (fun cdv A outer s H vs Q E hr h => ?_)
  · obtain ⟨S, s, n, rfl, _⟩ := h; rfl
  · obtain ⟨S, s, n, rfl, hS, hD, nm, sm, l20, q⟩ := h
    have hu := hu_of hr
    refine ⟨_, (pss_cons (ps_lock (ps_for PassesOwn.never rfl (pi_keys (pv 0)) (pg_name (i := 2) sc_law_leads.nd rfl (Or.inl rfl))
        (pss_one (ps_for PassesOwn.never rfl (pi_list (pe_dget hu (pe_dget hu (pv 0) (pv 2) (fun _ _ => rfl)) pe_str (fun _ _ => rfl))) (pg_name (i := 3) sc_law_leads.nd rfl (Or.inl rfl))
        (pss_one (ps_if (pt_cmpR op_eq (pe_ix ix_tup (pv 3) pe_int (fun _ _ => rfl)) (pv 1) (nomark _)) (pss_one (ps_ret pe_bl)) pss_nil))))))
        (pss_one (ps_ret pe_bl))), ?_⟩
    have neS := desc_ne hS hD
    have lk : (schK s).length = s.length := by unfold schK; rw [List.length_map]
    refine ⟨S, _, hS, True.intro, fun od => ?_⟩
    have hQ : ∀ b, b = refdM (s.map (·.2)) n → Q (.bl b) (upd (upd H S (.frz od (.dK (schK s)))) S (.dK (schK s))) := fun b e => by
      rw [e, upd_upd, upd_self hS]
      exact q _ (Same.refl _)
    refine ⟨_, rfl, S, od, rfl, .inl ⟨schK s, upd_same, for_it walk_keys (fun i σ H' => ∃ v w, σ = [some (.ref S), some (.str n), v, w] ∧ H' = upd H S (.frz od (.dK (schK s))) ∧ refdM ((s.take i).map (·.2)) n = false) ⟨none, none, rfl, rfl, rfl⟩ (fun i σ H' _ ⟨_, _, _, e, _⟩ => by rw [e]; exact upd_same) ?_ ?_⟩⟩
    · rintro i x σ H1 H1' hi ⟨v, w, rfl, rfl, ab⟩ ⟨rfl, key, wv, ek, rfl⟩
      obtain ⟨p, ep, rfl, rfl⟩ := sch_at ek
      have hp : p ∈ s := List.mem_of_getElem? ep
      have D1 := (hD p hp).lock (o := .frz od (.dK (schK s))) hS (neS p hp)
      obtain ⟨xr, r1, r2⟩ := D1.rf
      have lr : xr.length = p.2.rf.length := by rw [r2.length, List.length_map]
      refine ⟨_, rfl, _, rfl, S, _, rfl, sch_getF upd_same nm hp, p.1.d, _, rfl, D1.gr, p.1.r, rfl, ⟨_, SqL.of r1⟩, for_it walk_list (fun j σ H' => ∃ w, σ = [some (.ref S), some (.str n), some (.str p.2.n), w] ∧ H' = upd H S (.frz od (.dK (schK s))) ∧ ((p.2.rf.take j).any fun r => decide (r.2 = n)) = false) ⟨w, rfl, rfl, rfl⟩ (fun i σ H' _ ⟨_, _, e, _⟩ => by rw [e]; exact SqL.of r1) ?_ ?_⟩
      · rintro j y σ H2 H2' hj ⟨w, rfl, rfl, ac⟩ ⟨rfl, ey⟩
        have hjl : j < p.2.rf.length := by omega
        have ec : p.2.rf[j]? = some p.2.rf[j] := List.getElem?_eq_getElem hjl
        obtain ⟨v, g1, g2⟩ := r2.get' (i := j) (d := rfD p.2.rf[j]) (by rw [List.getElem?_map, ec]; rfl)
        rw [ey] at g1
        cases g1
        obtain ⟨ra, rfl, hra⟩ := rf_at g2
        refine ⟨_, rfl, ra, _, 1, _, rfl, rfl, SqT.of hra, atI_nat (j := 1) rfl, _, rfl, rfl, _, rfl, ?_⟩
        refine ifD (fun h => ⟨upd_same, hQ _ ?_⟩) (fun h => ⟨_, rfl, rfl, ?_⟩)
        · symm
          unfold refdM
          rw [List.any_eq_true]
          exact ⟨p.2, List.mem_map.mpr ⟨p, hp, rfl⟩, List.any_eq_true.mpr ⟨_, List.getElem_mem hjl, decide_eq_true (V.str.inj h)⟩⟩
        · rw [List.take_add_one, ec, List.any_append, ac]
          simp only [Option.toList_some, List.any_cons, List.any_nil, Bool.or_false, Bool.false_or]
          exact decide_eq_false fun e => h (congrArg V.str e)
      · rintro σ H2 ⟨w, rfl, rfl, ac⟩
        rw [lr, List.take_length] at ac
        refine ⟨_, _, rfl, rfl, ?_⟩
        unfold refdM at ab ⊢
        rw [take_map (fun p : Ads × Tab => p.2) ep, List.any_append, ab]
        simp only [List.any_cons, List.any_nil, Bool.or_false, Bool.false_or]
        exact ac
    · rintro σ H1 ⟨v, w, rfl, rfl, ab⟩
      rw [lk, List.take_length] at ab
      exact ⟨upd_same, hQ _ ab.symm⟩)
theorem ok_law_check {f : Addr} {fd : FuncData} (k : Kn K mg "_law_check" s_law_check ["schema", "step"] f fd) (z : Z K mg)
    {g_law_condition_fits : Addr} {gd_law_condition_fits : FuncData} (c_law_condition_fits : Cal P w K mg base 1 "_law_condition_fits" ["condition", "columns"] (spCondFits) g_law_condition_fits gd_law_condition_fits)
    {g_law_leads : Addr} {gd_law_leads : FuncData} (c_law_leads : Cal P w K mg base 1 "_law_leads" ["schema", "table"] (spIsReferenced) g_law_leads gd_law_leads) :
    Cal P w K mg base 2 "_law_check" ["schema", "step"] (spExp (fun l => ∃ t c, l = .addC t c ∨ l = .dropC t c)) f fd := k.cal (by
  refine k.F.ok sc_law_check (fun vs H Q E h => ?_) (fun cdv A outer s H vs Q E hr h => ?_)
  · obtain ⟨S, s, st, l, p, rfl, _⟩ := h; rfl
  · obtain ⟨S, s, st, l, p, rfl, O, hT, lo, hP, hp, ep, q1, q2⟩ := h
    have hu := hu_of hr
    refine ⟨_, (pss_cons (ps_set (i := 2) sc_law_check.nd rfl (Or.inl rfl) (pe_dget hu (pe_dget hu (pv 0) (pe_ix ix_tup (pv 1) pe_int (fun _ _ => rfl)) (fun _ _ => rfl)) pe_str (fun _ _ => rfl)))
        (pss_cons (ps_if (PW.pt (pw_and (pt_cmpR op_eq (pe_ix ix_tup (pv 1) pe_int (fun _ _ => rfl)) pe_str (nomark _)) (pw_and1 (pt_cmpR (op_notInD (units_of hr)) (pe_ix ix_tup (pv 1) pe_int (fun _ _ => rfl)) (pv 2) (by rfl))))) (pss_one (ps_ret pe_str)) pss_nil)
        (pss_cons (ps_if (PW.pt (pw_and (pt_cmpR op_eq (pe_ix ix_tup (pv 1) pe_int (fun _ _ => rfl)) pe_str (nomark _)) (pw_and1 (pt_not (pt_val (pe_call c_law_condition_fits.G (hr.mono (by decide)) (by rfl) c_law_condition_fits.m c_law_condition_fits.kp c_law_condition_fits.b .nil pass0 (pa_cons (pe_ix ix_tup (pv 1) pe_int (fun _ _ => rfl)) (pa_cons (pe_dget hu (pe_dget hu (pv 0) (pe_ix ix_tup (pv 1) pe_int (fun _ _ => rfl)) (fun _ _ => rfl)) pe_str (fun _ _ => rfl)) pa_nil)))))))) (pss_one (ps_ret pe_str)) pss_nil)
        (pss_cons (ps_if (pt_val (pe_call c_law_leads.G (hr.mono (by decide)) (by rfl) c_law_leads.m c_law_leads.kp c_law_leads.b .nil pass0 (pa_cons (pv 0) (pa_cons (pe_ix ix_tup (pv 1) pe_int (fun _ _ => rfl)) pa_nil)))) (pss_one (ps_ret pe_str)) pss_nil)
        (pss_cons (ps_if (pt_cmpR op_eq (pe_ix ix_tup (pv 1) pe_int (fun _ _ => rfl)) pe_str (nomark _)) (pss_cons (ps_expr (pe_bm PySem.F.plainAttrs_list PySem.F.slot_list_pop PySem.F.type_list_pop mt_popAt (pv 2) (pa_cons (pe_bm PySem.F.plainAttrs_list PySem.F.slot_list_index PySem.F.type_list_index (mt_indexD (units_of hr)) (pv 2) (pa_cons (pe_ix ix_tup (pv 1) pe_int (fun _ _ => rfl)) pa_nil)) pa_nil)))
        (pss_one (ps_ret pe_str))) pss_nil)
        (pss_cons (ps_if (pt_cmpR op_eq (pe_callB call_len_seq (by rfl) z.len (by decide +kernel) (pa_cons (pv 2) pa_nil)) pe_int (nomark _)) (pss_one (ps_ret pe_str)) pss_nil)
        (pss_cons (ps_expr (pe_bm PySem.F.plainAttrs_list PySem.F.slot_list_append PySem.F.type_list_append mt_append (pv 2) (pa_cons (pe_ix ix_tup (pv 1) pe_int (fun _ _ => rfl)) pa_nil)))
        (pss_one (ps_ret pe_str))))))))), ?_⟩
    obtain ⟨ys0, hst, rst⟩ := ls_at hT
    have D := O.v.ds p hp
    have v := O.v.ok p hp
    have sm : ∀ p ∈ s, TabSm p.2 := fun p hp => (O.v.ok p hp).sm
    have l6 := O.v.l6
    have l8 := v.l8
    have c4 := v.c4
    have u4 := v.u4
    have r4 := v.r4
    have DS : DGet H S (.str (lsT l)) (some (.ref p.1.d)) := by rw [← ep]; exact sch_getK O.v.sk O.v.nm hp
    have qe : ∀ z, codeT (tbs s) p.2 l = z → z ≠ "" → ∀ H', Same H H' → Q (.str z) H' := fun z e h H' s' => by subst e; exact q1 h H' s'
    clear q1

    obtain ⟨t, c, hP⟩ := hP
    let PT := Pt.c
    obtain ⟨xs, g2, g3⟩ := D.ch
    rcases hP with rfl | rfl
    · simp only [lsT, lsK] at hst DS ep
      obtain ⟨v0, rfl, a3⟩ := tp_one rst
      obtain ⟨ca, ws, rfl, hca, rca⟩ := t_at a3
      obtain ⟨o1, o2, o3⟩ := lo.1
      refine ⟨_, rfl, _, rfl, st, _, 1, _, rfl, rfl, SqT.of (hst), atI_nat (j := 1) rfl, S, _, rfl, DS, p.1.d, _, rfl, D.gk, ?_⟩
      refine ⟨_, rfl, st, _, 0, _, rfl, rfl, SqT.of (hst), atI_nat (j := 0) rfl, rfl, _, rfl, iteDF (by decide +kernel) ?_⟩
      refine ⟨_, rfl, st, _, 0, _, rfl, rfl, SqT.of (hst), atI_nat (j := 0) rfl, rfl, _, rfl, iteDT rfl ?_⟩
      refine ⟨_, rfl, st, _, 2, _, rfl, rfl, SqT.of (hst), atI_nat (j := 2) rfl, _, rfl, _, rfl, st, _, 1, _, rfl, rfl, SqT.of (hst), atI_nat (j := 1) rfl, S, _, rfl, DS, p.1.d, _, rfl, D.gc, ca, p.1.c, c, p.2.cols, rfl, a3, D.co, v.co, by omega, fun a ha cl hcl => (o3 a ha cl hcl).2.2, fun H1 s1 => ⟨_, rfl, ?_⟩⟩
      cases hf : fitsM p.2.cols c with
      | false =>
        refine qe "condition" ?_ (by decide +kernel) H1 s1
        simp only [codeT]; rw [hf]; rfl
      | true =>
        have cd : codeT (tbs s) p.2 (.addC t c) = fullM (tbs s) p.2 PT := by simp only [codeT]; rw [hf]; rfl
        refine ⟨_, rfl, _, rfl, st, _, 1, _, rfl, rfl, SqT.of (s1 _ _ hst), atI_nat (j := 1) rfl, S, s, t, rfl, (O.v.mono (s1)).sk, (O.v.mono (s1)).ds, O.v.nm, sm, by omega, fun H2 s2 => ⟨_, rfl, ?_⟩⟩
        have E2 := Same.trans (s1) s2
        have rfe : refdM (s.map (·.2)) t = refdM (tbs s) p.2.n := by rw [ep]; rfl
        have G2 := E2 _ _ g2
        have G3 := g3.mono (KeepT.of E2)
        have lx : xs.length = ptL p.2 PT := by rw [g3.length]; exact ptD_len p.2 PT

        refine ite2 (fun h4 => ?_) (fun h4 => ?_)
        · have hc : fullM (tbs s) p.2 PT = "referenced" := by unfold fullM; rw [if_pos (by rw [← rfe]; exact h4)]
          exact qe _ (cd.trans hc) (by decide +kernel) H2 E2
        refine ⟨_, rfl, st, _, 0, _, rfl, rfl, SqT.of (E2 _ _ hst), atI_nat (j := 0) rfl, rfl, _, rfl, iteDF (by decide +kernel) ?_⟩
        refine ⟨_, rfl, _, xs, rfl, .inl (SqL.of G2), rfl, _, rfl, ?_⟩
        refine ifD (fun h5 => ?_) (fun h5 => ?_)
        · have h5' : (xs.length : Int) = 4 := V.int.inj h5
          have hc : fullM (tbs s) p.2 PT = "limit" := by unfold fullM; rw [if_neg (by rw [← rfe]; exact h4), if_pos (by omega)]
          exact qe _ (cd.trans hc) (by decide +kernel) H2 E2
        · have h5' : ¬ (xs.length : Int) = 4 := fun z => h5 (congrArg V.int z)
          have l4 : ptL p.2 PT < 4 := by
            have : ptL p.2 PT ≤ 4 := by simp only [PT, ptL]; omega
            omega
          have hc : fullM (tbs s) p.2 PT = "" := by unfold fullM; rw [if_neg (by rw [← rfe]; exact h4), if_neg (by omega)]
          obtain ⟨s', b1, b2, b3, b4⟩ := O.add (l := .addC t c) E2 hp ep lo rfl l4 G3 (a3.mono (KeepT.of (E2)))
          exact ⟨_, rfl, .inl ⟨rfl, _, SqL.of G2⟩, _, rfl, st, _, 2, _, rfl, rfl, SqT.of (E2 _ _ hst), atI_nat (j := 2) rfl, _, xs, _, rfl, rfl, G2, small1000 (by omega), q2 (cd.trans hc) s' _ b1 b2 b3 b4⟩
    · simp only [lsT, lsK] at hst DS ep
      obtain ⟨v0, rfl, a3⟩ := tp_one rst
      refine ⟨_, rfl, _, rfl, st, _, 1, _, rfl, rfl, SqT.of (hst), atI_nat (j := 1) rfl, S, _, rfl, DS, p.1.d, _, rfl, D.gk, ?_⟩
      obtain ⟨n1, n2, n3⟩ := itD_nb lo.1
      obtain ⟨k1, k2⟩ := ptD_ok v PT
      have sh1 := shaped_of n2 (Nat.le_trans n3 (by decide))
      have sh2 := shapedL_of k1 (Nat.le_trans k2 (by decide))
      refine ⟨_, rfl, st, _, 0, _, rfl, rfl, SqT.of (hst), atI_nat (j := 0) rfl, rfl, _, rfl, iteDT rfl ?_⟩
      refine ⟨_, rfl, st, _, 2, _, rfl, rfl, SqT.of (hst), atI_nat (j := 2) rfl, _, rfl, _, _, a3.py, .lst (SqL.of g2) g3.py, sh1, sh2, _, rfl, ?_⟩
      have ha := has_any v lo.1
      have ha' : ((pyOfL (p.2.ch.map condD)).any fun z => PyData.eqv z (pyOf (condD c))) = hasIt p.2 (.c c) := ha
      rw [ha']
      refine ite2 (fun h3 => ?_) (fun h3 => ?_)
      · refine qe "missing" ?_ (by decide +kernel) H (Same.refl _)
        simp only [codeT, dropM]
        rw [if_neg (by simpa using h3)]
      have hi : hasIt p.2 (.c c) = true := by simpa using h3
      have cd : codeT (tbs s) p.2 (.dropC t c) = (if refdM (tbs s) p.2.n = true then ("referenced" : Str) else ("" : Str)) := by simp only [codeT, dropM]; rw [if_pos hi]
      refine ⟨_, rfl, st, _, 0, _, rfl, rfl, SqT.of (hst), atI_nat (j := 0) rfl, rfl, _, rfl, iteDF (by decide +kernel) ?_⟩
      refine ⟨_, rfl, _, rfl, st, _, 1, _, rfl, rfl, SqT.of (hst), atI_nat (j := 1) rfl, S, s, t, rfl, (O.v.mono (Same.refl H)).sk, (O.v.mono (Same.refl H)).ds, O.v.nm, sm, by omega, fun H2 s2 => ⟨_, rfl, ?_⟩⟩
      have E2 := Same.trans (Same.refl H) s2
      have rfe : refdM (s.map (·.2)) t = refdM (tbs s) p.2.n := by rw [ep]; rfl
      have G2 := E2 _ _ g2
      have G3 := g3.mono (KeepT.of E2)
      have lx : xs.length = ptL p.2 PT := by rw [g3.length]; exact ptD_len p.2 PT

      refine ite2 (fun h4 => ?_) (fun h4 => ?_)
      · exact qe _ (cd.trans (if_pos (by rw [← rfe]; exact h4))) (by decide +kernel) H2 E2
      have hc := cd.trans (if_neg (by rw [← rfe]; exact h4))
      obtain ⟨j, z, hj, j1, j2, j3, s', b1, b2, b3, b4⟩ := O.del (l := .dropC t c) E2 hp ep lo rfl hi G3
      obtain ⟨n1, n2, n3⟩ := itD_nb lo.1
      obtain ⟨k1, k2⟩ := ptD_ok v PT
      have sh1 := shaped_of n2 (Nat.le_trans n3 (by decide))
      have sh2 := shapedL_of k1 (Nat.le_trans k2 (by decide))
      have c4' : ptL p.2 PT ≤ 4 := by simp only [PT, ptL]; omega
      refine ⟨_, rfl, st, _, 0, _, rfl, rfl, SqT.of (E2 _ _ hst), atI_nat (j := 0) rfl, rfl, _, rfl, iteDT rfl ?_⟩
      exact ⟨_, rfl, .inl ⟨rfl, _, SqL.of G2⟩, _, rfl, .inl ⟨rfl, _, SqL.of G2⟩, _, rfl, st, _, 2, _, rfl, rfl, SqT.of (E2 _ _ hst), atI_nat (j := 2) rfl, _, _, _, _, j, z, rfl, rfl, .lst (SqL.of G2) G3.py, (a3.mono (KeepT.of (E2))).py, sh2, sh1, j1, j2, j3, _, xs, (j : Int), j, xs[j], rfl, rfl, G2, by omega, by omega, seq_nat hj, List.getElem?_eq_getElem hj, q2 hc s' _ b1 b2 b3 b4⟩)
theorem ok_law_found {f : Addr} {fd : FuncData} (k : Kn K mg "_law_found" s_law_found ["description", "name"] f fd) (z : Z K mg) :
    Cal P w K mg base 1 "_law_found" ["description", "name"] (spFound) f fd := k.cal (by
  refine k.F.ok sc_law_found (fun vs H Q E h => ?_) (fun cdv A outer s H vs Q E hr h => ?_)
  · obtain ⟨a, t, n, rfl, _⟩ := h; rfl
  · obtain ⟨a, t, n, rfl, D, co, q1, q2⟩ := h
    have hu := hu_of hr
    refine ⟨_, (pss_cons (ps_for PassesOwn.never rfl (pi_list (pe_dget hu (pv 0) pe_str (fun _ _ => rfl))) (pg_name (i := 2) sc_law_found.nd rfl (Or.inl rfl))
        (pss_one (ps_if (pt_cmpR op_eq (pe_ix ix_tup (pv 2) pe_int (fun _ _ => rfl)) (pv 1) (nomark _)) (pss_one (ps_ret (pv 2))) pss_nil)))
        (pss_one (ps_ret pe_non))), ?_⟩
    obtain ⟨xs, h1, h2⟩ := id D.co
    have hx : xs.length = t.cols.length := by rw [h2.length, List.length_map]
    have idx : ∀ (i : Nat) (c : Col), t.cols[i]? = some c → c.n = n → n ∈ colNs t.cols ∧ t.cols[(colNs t.cols).idxOf n]? = some c := fun i c h e => by
      have a1 : (colNs t.cols)[i]? = some n := by unfold colNs; rw [List.getElem?_map, h, ← e]; rfl
      have hm := List.mem_of_getElem? a1
      obtain ⟨j, e1, e2, e3, _⟩ := idx_str hm
      have := nd_ix co.nd a1 e3
      exact ⟨hm, by rw [← e1, ← this]; exact h⟩
    refine ⟨_, rfl, a.d, _, rfl, D.gc, a.c, rfl, ⟨_, SqL.of h1⟩, for_it walk_list (fun i σ H' => (∃ v2, σ = [some (.ref a.d), some (.str n), v2]) ∧ H' = H ∧ ∀ j c, j < i → t.cols[j]? = some c → c.n ≠ n) ⟨⟨_, rfl⟩, rfl, fun j c hj => absurd hj (Nat.not_lt_zero _)⟩ (fun i σ H' _ hh => by rw [hh.2.1]; exact SqL.of h1) ?_ ?_⟩
    · rintro i x σ H1 H1' hi ⟨⟨v2, rfl⟩, rfl, f⟩ ⟨rfl, ex⟩
      have hil : i < t.cols.length := by omega
      have ec : t.cols[i]? = some t.cols[i] := List.getElem?_eq_getElem hil
      obtain ⟨xs', ca, k1, k2, k3⟩ := D.co.get ec
      rw [h1] at k1
      cases k1
      rw [ex] at k2
      cases k2
      generalize t.cols[i] = y at *
      refine ⟨_, rfl, ca, _, 0, _, rfl, rfl, SqT.of k3, atI_nat (j := 0) rfl, _, rfl, rfl, _, rfl, ?_⟩
      refine ifD (fun he => ?_) (fun he => ?_)
      · obtain ⟨i1, i2⟩ := idx i y ec (V.str.inj he)
        exact ⟨_, rfl, q2 i1 ca y i2 (.t k3 (.cons (.s rfl) (.cons (.s rfl) (.cons (.s rfl) .nil))))⟩
      · refine ⟨⟨_, rfl⟩, rfl, fun j c hj hc => ?_⟩
        by_cases e : j = i
        · subst e
          rw [ec] at hc
          cases hc
          exact fun z => he (congrArg V.str z)
        · exact f j c (by omega) hc
    · rintro σ H1 ⟨⟨v2, rfl⟩, rfl, f⟩
      refine q1 fun hm => ?_
      obtain ⟨c, i1, i2, _⟩ := idx_get hm
      exact f _ c (by have := (List.getElem?_eq_some_iff.mp i1).1; omega) i1 i2)
theorem ok_law_unique {f : Addr} {fd : FuncData} (k : Kn K mg "_law_unique" s_law_unique ["schema", "step"] f fd) (z : Z K mg)
    {g_law_found : Addr} {gd_law_found : FuncData} (c_law_found : Cal P w K mg base 1 "_law_found" ["description", "name"] (spFound) g_law_found gd_law_found)
    {g_law_leads : Addr} {gd_law_leads : FuncData} (c_law_leads : Cal P w K mg base 1 "_law_leads" ["schema", "table"] (spIsReferenced) g_law_leads gd_law_leads) :
    Cal P w K mg base 2 "_law_unique" ["schema", "step"] (spExp (fun l => ∃ t n, l = .addU t n ∨ l = .dropU t n)) f fd := k.cal (by
  refine k.F.ok sc_law_unique (fun vs H Q E h => ?_) (fun cdv A outer s H vs Q E hr h => ?_)
  · obtain ⟨S, s, st, l, p, rfl, _⟩ := h; rfl
  · obtain ⟨S, s, st, l, p, rfl, O, hT, lo, hP, hp, ep, q1, q2⟩ := h
    have hu := hu_of hr
    refine ⟨_, (pss_cons (ps_set (i := 2) sc_law_unique.nd rfl (Or.inl rfl) (pe_dget hu (pv 0) (pe_ix ix_tup (pv 1) pe_int (fun _ _ => rfl)) (fun _ _ => rfl)))
        (pss_cons (ps_set (i := 3) sc_law_unique.nd rfl (Or.inl rfl) (pe_dget hu (pv 2) pe_str (fun _ _ => rfl)))
        (pss_cons (ps_if (PW.pt (pw_and (pt_cmpR op_eq (pe_ix ix_tup (pv 1) pe_int (fun _ _ => rfl)) pe_str (nomark _)) (pw_and1 (pt_cmpR (op_notInD (units_of hr)) (pe_ix ix_tup (pv 1) pe_int (fun _ _ => rfl)) (pv 3) (by rfl))))) (pss_one (ps_ret pe_str)) pss_nil)
        (pss_cons (ps_if (pt_cmpR op_eq (pe_ix ix_tup (pv 1) pe_int (fun _ _ => rfl)) pe_str (nomark _)) (pss_cons (ps_if (pt_cmpR op_isN (pe_call c_law_found.G (hr.mono (by decide)) (by rfl) c_law_found.m c_law_found.kp c_law_found.b .nil pass0 (pa_cons (pv 2) (pa_cons (pe_ix ix_tup (pv 1) pe_int (fun _ _ => rfl)) pa_nil))) pe_non (nomark _)) (pss_one (ps_ret pe_str)) pss_nil)
        (pss_cons (ps_if (pt_cmpR op_eq (pe_ix ix_tup (pe_ix ix_list (pe_dget hu (pv 2) pe_str (fun _ _ => rfl)) pe_int (fun _ _ => rfl)) pe_int (fun _ _ => rfl)) (pe_ix ix_tup (pv 1) pe_int (fun _ _ => rfl)) (nomark _)) (pss_one (ps_ret pe_str)) pss_nil)
        (pss_one (ps_if (pt_cmpR (op_inD (units_of hr)) (pe_ix ix_tup (pv 1) pe_int (fun _ _ => rfl)) (pv 3) (by rfl)) (pss_one (ps_ret pe_str)) pss_nil)))) pss_nil)
        (pss_cons (ps_if (pt_val (pe_call c_law_leads.G (hr.mono (by decide)) (by rfl) c_law_leads.m c_law_leads.kp c_law_leads.b .nil pass0 (pa_cons (pv 0) (pa_cons (pe_ix ix_tup (pv 1) pe_int (fun _ _ => rfl)) pa_nil)))) (pss_one (ps_ret pe_str)) pss_nil)
        (pss_cons (ps_if (pt_cmpR op_eq (pe_ix ix_tup (pv 1) pe_int (fun _ _ => rfl)) pe_str (nomark _)) (pss_cons (ps_expr (pe_bm PySem.F.plainAttrs_list PySem.F.slot_list_pop PySem.F.type_list_pop mt_popAt (pv 3) (pa_cons (pe_bm PySem.F.plainAttrs_list PySem.F.slot_list_index PySem.F.type_list_index (mt_indexD (units_of hr)) (pv 3) (pa_cons (pe_ix ix_tup (pv 1) pe_int (fun _ _ => rfl)) pa_nil)) pa_nil)))
        (pss_one (ps_ret pe_str))) pss_nil)
        (pss_cons (ps_if (pt_cmpR op_eq (pe_callB call_len_seq (by rfl) z.len (by decide +kernel) (pa_cons (pv 3) pa_nil)) pe_int (nomark _)) (pss_one (ps_ret pe_str)) pss_nil)
        (pss_cons (ps_expr (pe_bm PySem.F.plainAttrs_list PySem.F.slot_list_append PySem.F.type_list_append mt_append (pv 3) (pa_cons (pe_ix ix_tup (pv 1) pe_int (fun _ _ => rfl)) pa_nil)))
        (pss_one (ps_ret pe_str)))))))))), ?_⟩
    obtain ⟨ys0, hst, rst⟩ := ls_at hT
    have D := O.v.ds p hp
    have v := O.v.ok p hp
    have sm : ∀ p ∈ s, TabSm p.2 := fun p hp => (O.v.ok p hp).sm
    have l6 := O.v.l6
    have l8 := v.l8
    have c4 := v.c4
    have u4 := v.u4
    have r4 := v.r4
    have DS : DGet H S (.str (lsT l)) (some (.ref p.1.d)) := by rw [← ep]; exact sch_getK O.v.sk O.v.nm hp
    have qe : ∀ z, codeT (tbs s) p.2 l = z → z ≠ "" → ∀ H', Same H H' → Q (.str z) H' := fun z e h H' s' => by subst e; exact q1 h H' s'
    clear q1

    obtain ⟨t, n, hP⟩ := hP
    let PT := Pt.u
    obtain ⟨xs, g2, g3⟩ : ∃ xs, H p.1.u = some (.lst xs) ∧ TpL H xs (ptD p.2 PT) := ⟨_, D.un, strs_tp _⟩
    obtain ⟨n1, n2, n3⟩ := itD_nb lo.1
    obtain ⟨k1, k2⟩ := ptD_ok v PT
    have sh1 := shaped_of n2 (Nat.le_trans n3 (by decide))
    have sh2 := shapedL_of k1 (Nat.le_trans k2 (by decide))
    have ha := has_any v lo.1
    rcases hP with rfl | rfl
    · simp only [lsT, lsK] at hst DS ep
      obtain ⟨v0, rfl, a3⟩ := tp_one rst
      cases a3.s1
      have ha' : ((pyOfL (ptD p.2 PT)).any fun z => PyData.eqv z (pyOf (Lt.D.s (.str n)))) = memB p.2.un n := ha
      refine ⟨_, rfl, _, rfl, st, _, 1, _, rfl, rfl, SqT.of (hst), atI_nat (j := 1) rfl, S, _, rfl, DS, _, rfl, p.1.d, _, rfl, D.gu, ?_⟩
      refine ⟨_, rfl, st, _, 0, _, rfl, rfl, SqT.of (hst), atI_nat (j := 0) rfl, rfl, _, rfl, iteDF (by decide +kernel) ?_⟩
      refine ⟨_, rfl, st, _, 0, _, rfl, rfl, SqT.of (hst), atI_nat (j := 0) rfl, rfl, _, rfl, iteDT rfl ?_⟩
      refine ⟨_, rfl, _, rfl, st, _, 2, _, rfl, rfl, SqT.of (hst), atI_nat (j := 2) rfl, p.1, p.2, n, rfl, D, v.co, fun hn => ?_, fun hn cc ca hc hca => ?_⟩
      · refine ⟨rfl, _, rfl, iteDT rfl (qe "missing" ?_ (by decide +kernel) H (Same.refl _))⟩
        simp only [codeT]; rw [if_neg hn]
      refine ⟨rfl, _, rfl, iteDF (fun z => nomatch z) ?_⟩
      obtain ⟨kc, hkc, ek1, ek2, _⟩ := key_at v.l0
      obtain ⟨xk, ka, k3, k4, k5⟩ := D.co.get hkc
      refine ⟨_, rfl, p.1.d, _, rfl, D.gc, p.1.c, _, 0, _, rfl, rfl, SqL.of k3, atI_nat (j := 0) k4, ka, _, 0, _, rfl, rfl, SqT.of k5, atI_nat (j := 0) rfl, _, rfl, st, _, 2, _, rfl, rfl, SqT.of (hst), atI_nat (j := 2) rfl, rfl, _, rfl, ?_⟩
      refine ifD (fun hk => ?_) (fun hk => ?_)
      · refine qe "key" ?_ (by decide +kernel) H (Same.refl _)
        simp only [codeT]; rw [if_pos hn, if_pos (by rw [← ek1]; exact (V.str.inj hk).symm)]
      have hk' : ¬ n = keyN p.2 := fun z => hk (by rw [ek1, z])
      refine ⟨_, rfl, st, _, 2, _, rfl, rfl, SqT.of (hst), atI_nat (j := 2) rfl, _, rfl, _, _, a3.py, .lst (SqL.of g2) g3.py, sh1, sh2, _, rfl, ?_⟩
      rw [ha']
      refine ite2 (fun h3 => ?_) (fun h3 => ?_)
      · refine qe "taken" ?_ (by decide +kernel) H (Same.refl _)
        simp only [codeT]; rw [if_pos hn, if_neg hk', if_pos h3]
      have cd : codeT (tbs s) p.2 (.addU t n) = fullM (tbs s) p.2 PT := by simp only [codeT]; rw [if_pos hn, if_neg hk', if_neg h3]
      refine ⟨_, rfl, _, rfl, st, _, 1, _, rfl, rfl, SqT.of (hst), atI_nat (j := 1) rfl, S, s, t, rfl, (O.v.mono (Same.refl H)).sk, (O.v.mono (Same.refl H)).ds, O.v.nm, sm, by omega, fun H2 s2 => ⟨_, rfl, ?_⟩⟩
      have E2 := Same.trans (Same.refl H) s2
      have rfe : refdM (s.map (·.2)) t = refdM (tbs s) p.2.n := by rw [ep]; rfl
      have G2 := E2 _ _ g2
      have G3 := g3.mono (KeepT.of E2)
      have lx : xs.length = ptL p.2 PT := by rw [g3.length]; exact ptD_len p.2 PT

      refine ite2 (fun h4 => ?_) (fun h4 => ?_)
      · have hc : fullM (tbs s) p.2 PT = "referenced" := by unfold fullM; rw [if_pos (by rw [← rfe]; exact h4)]
        exact qe _ (cd.trans hc) (by decide +kernel) H2 E2
      refine ⟨_, rfl, st, _, 0, _, rfl, rfl, SqT.of (E2 _ _ hst), atI_nat (j := 0) rfl, rfl, _, rfl, iteDF (by decide +kernel) ?_⟩
      refine ⟨_, rfl, _, xs, rfl, .inl (SqL.of G2), rfl, _, rfl, ?_⟩
      refine ifD (fun h5 => ?_) (fun h5 => ?_)
      · have h5' : (xs.length : Int) = 4 := V.int.inj h5
        have hc : fullM (tbs s) p.2 PT = "limit" := by unfold fullM; rw [if_neg (by rw [← rfe]; exact h4), if_pos (by omega)]
        exact qe _ (cd.trans hc) (by decide +kernel) H2 E2
      · have h5' : ¬ (xs.length : Int) = 4 := fun z => h5 (congrArg V.int z)
        have l4 : ptL p.2 PT < 4 := by
          have : ptL p.2 PT ≤ 4 := by simp only [PT, ptL]; omega
          omega
        have hc : fullM (tbs s) p.2 PT = "" := by unfold fullM; rw [if_neg (by rw [← rfe]; exact h4), if_neg (by omega)]
        obtain ⟨s', b1, b2, b3, b4⟩ := O.add (l := .addU t n) E2 hp ep lo rfl l4 G3 (a3.mono (KeepT.of (E2)))
        exact ⟨_, rfl, .inl ⟨rfl, _, SqL.of G2⟩, _, rfl, st, _, 2, _, rfl, rfl, SqT.of (E2 _ _ hst), atI_nat (j := 2) rfl, _, xs, _, rfl, rfl, G2, small1000 (by omega), q2 (cd.trans hc) s' _ b1 b2 b3 b4⟩
    · simp only [lsT, lsK] at hst DS ep
      obtain ⟨v0, rfl, a3⟩ := tp_one rst
      cases a3.s1
      have ha' : ((pyOfL (ptD p.2 PT)).any fun z => PyData.eqv z (pyOf (Lt.D.s (.str n)))) = hasIt p.2 (.u n) := ha
      refine ⟨_, rfl, _, rfl, st, _, 1, _, rfl, rfl, SqT.of (hst), atI_nat (j := 1) rfl, S, _, rfl, DS, _, rfl, p.1.d, _, rfl, D.gu, ?_⟩
      refine ⟨_, rfl, st, _, 0, _, rfl, rfl, SqT.of (hst), atI_nat (j := 0) rfl, rfl, _, rfl, iteDT rfl ?_⟩
      refine ⟨_, rfl, st, _, 2, _, rfl, rfl, SqT.of (hst), atI_nat (j := 2) rfl, _, rfl, _, _, a3.py, .lst (SqL.of g2) g3.py, sh1, sh2, _, rfl, ?_⟩
      rw [ha']
      refine ite2 (fun h3 => ?_) (fun h3 => ?_)
      · refine qe "missing" ?_ (by decide +kernel) H (Same.refl _)
        simp only [codeT, dropM]
        rw [if_neg (by simpa using h3)]
      have hi : hasIt p.2 (.u n) = true := by simpa using h3
      have cd : codeT (tbs s) p.2 (.dropU t n) = (if refdM (tbs s) p.2.n = true then ("referenced" : Str) else ("" : Str)) := by simp only [codeT, dropM]; rw [if_pos hi]
      refine ⟨_, rfl, st, _, 0, _, rfl, rfl, SqT.of (hst), atI_nat (j := 0) rfl, rfl, _, rfl, iteDF (by decide +kernel) ?_⟩
      refine ⟨_, rfl, _, rfl, st, _, 1, _, rfl, rfl, SqT.of (hst), atI_nat (j := 1) rfl, S, s, t, rfl, (O.v.mono (Same.refl H)).sk, (O.v.mono (Same.refl H)).ds, O.v.nm, sm, by omega, fun H2 s2 => ⟨_, rfl, ?_⟩⟩
      have E2 := Same.trans (Same.refl H) s2
      have rfe : refdM (s.map (·.2)) t = refdM (tbs s) p.2.n := by rw [ep]; rfl
      have G2 := E2 _ _ g2
      have G3 := g3.mono (KeepT.of E2)
      have lx : xs.length = ptL p.2 PT := by rw [g3.length]; exact ptD_len p.2 PT

      refine ite2 (fun h4 => ?_) (fun h4 => ?_)
      · exact qe _ (cd.trans (if_pos (by rw [← rfe]; exact h4))) (by decide +kernel) H2 E2
      have hc := cd.trans (if_neg (by rw [← rfe]; exact h4))
      obtain ⟨j, z, hj, j1, j2, j3, s', b1, b2, b3, b4⟩ := O.del (l := .dropU t n) E2 hp ep lo rfl hi G3
      obtain ⟨n1, n2, n3⟩ := itD_nb lo.1
      obtain ⟨k1, k2⟩ := ptD_ok v PT
      have sh1 := shaped_of n2 (Nat.le_trans n3 (by decide))
      have sh2 := shapedL_of k1 (Nat.le_trans k2 (by decide))
      have c4' : ptL p.2 PT ≤ 4 := by simp only [PT, ptL]; omega
      refine ⟨_, rfl, st, _, 0, _, rfl, rfl, SqT.of (E2 _ _ hst), atI_nat (j := 0) rfl, rfl, _, rfl, iteDT rfl ?_⟩
      exact ⟨_, rfl, .inl ⟨rfl, _, SqL.of G2⟩, _, rfl, .inl ⟨rfl, _, SqL.of G2⟩, _, rfl, st, _, 2, _, rfl, rfl, SqT.of (E2 _ _ hst), atI_nat (j := 2) rfl, _, _, _, _, j, z, rfl, rfl, .lst (SqL.of G2) G3.py, (a3.mono (KeepT.of (E2))).py, sh2, sh1, j1, j2, j3, _, xs, (j : Int), j, xs[j], rfl, rfl, G2, by omega, by omega, seq_nat hj, List.getElem?_eq_getElem hj, q2 hc s' _ b1 b2 b3 b4⟩)
theorem ok_law_reference {f : Addr} {fd : FuncData} (k : Kn K mg "_law_reference" s_law_reference ["schema", "step"] f fd) (z : Z K mg)
    {g_law_found : Addr} {gd_law_found : FuncData} (c_law_found : Cal P w K mg base 1 "_law_found" ["description", "name"] (spFound) g_law_found gd_law_found)
    {g_law_leads : Addr} {gd_law_leads : FuncData} (c_law_leads : Cal P w K mg base 1 "_law_leads" ["schema", "table"] (spIsReferenced) g_law_leads gd_law_leads) :
    Cal P w K mg base 2 "_law_reference" ["schema", "step"] (spExp (fun l => ∃ t n o, l = .addR t n o ∨ l = .dropR t n o)) f fd := k.cal (by
  refine k.F.ok sc_law_reference (fun vs H Q E h => ?_) (fun cdv A outer s H vs Q E hr h => ?_)
  · obtain ⟨S, s, st, l, p, rfl, _⟩ := h; rfl
  · obtain ⟨S, s, st, l, p, rfl, O, hT, lo, hP, hp, ep, q1, q2⟩ := h
    have hu := hu_of hr
    refine ⟨_, (pss_cons (ps_set (i := 2) sc_law_reference.nd rfl (Or.inl rfl) (pe_dget hu (pv 0) (pe_ix ix_tup (pv 1) pe_int (fun _ _ => rfl)) (fun _ _ => rfl)))
        (pss_cons (ps_set (i := 3) sc_law_reference.nd rfl (Or.inl rfl) (pe_dget hu (pv 2) pe_str (fun _ _ => rfl)))
        (pss_cons (ps_set (i := 4) sc_law_reference.nd rfl (Or.inl rfl) (pe_tup (pa_cons (pe_ix ix_tup (pv 1) pe_int (fun _ _ => rfl)) (pa_cons (pe_ix ix_tup (pv 1) pe_int (fun _ _ => rfl)) pa_nil))))
        (pss_cons (ps_if (PW.pt (pw_and (pt_cmpR op_eq (pe_ix ix_tup (pv 1) pe_int (fun _ _ => rfl)) pe_str (nomark _)) (pw_and1 (pt_cmpR (op_notInD (units_of hr)) (pv 4) (pv 3) (by rfl))))) (pss_one (ps_ret pe_str)) pss_nil)
        (pss_cons (ps_if (pt_cmpR op_eq (pe_ix ix_tup (pv 1) pe_int (fun _ _ => rfl)) pe_str (nomark _)) (pss_cons (ps_set (i := 5) sc_law_reference.nd rfl (Or.inl rfl) (pe_call c_law_found.G (hr.mono (by decide)) (by rfl) c_law_found.m c_law_found.kp c_law_found.b .nil pass0 (pa_cons (pv 2) (pa_cons (pe_ix ix_tup (pv 1) pe_int (fun _ _ => rfl)) pa_nil))))
        (pss_cons (ps_if (PW.pt (pw_or (pt_cmpR op_isN (pv 5) pe_non (nomark _)) (pw_or1 (pt_cmp (pc_dnotin hu (pe_ix ix_tup (pv 1) pe_int (fun _ _ => rfl)) (pv 0)))))) (pss_one (ps_ret pe_str)) pss_nil)
        (pss_cons (ps_if (pt_cmpR (op_eqD hr.units) (pe_ix ix_list (pe_dget hu (pv 2) pe_str (fun _ _ => rfl)) pe_int (fun _ _ => rfl)) (pv 5) (nomark _)) (pss_one (ps_ret pe_str)) pss_nil)
        (pss_cons (ps_if (pt_cmpR op_eq (pe_ix ix_tup (pv 1) pe_int (fun _ _ => rfl)) (pe_ix ix_tup (pv 1) pe_int (fun _ _ => rfl)) (nomark _)) (pss_one (ps_ret pe_str)) pss_nil)
        (pss_cons (ps_if (pt_cmpR op_ne (pe_ix ix_tup (pe_ix ix_list (pe_dget hu (pe_dget hu (pv 0) (pe_ix ix_tup (pv 1) pe_int (fun _ _ => rfl)) (fun _ _ => rfl)) pe_str (fun _ _ => rfl)) pe_int (fun _ _ => rfl)) pe_int (fun _ _ => rfl)) (pe_ix ix_tup (pv 5) pe_int (fun _ _ => rfl)) (nomark _)) (pss_one (ps_ret pe_str)) pss_nil)
        (pss_one (ps_if (pt_cmpR (op_inD (units_of hr)) (pv 4) (pv 3) (by rfl)) (pss_one (ps_ret pe_str)) pss_nil))))))) pss_nil)
        (pss_cons (ps_if (pt_val (pe_call c_law_leads.G (hr.mono (by decide)) (by rfl) c_law_leads.m c_law_leads.kp c_law_leads.b .nil pass0 (pa_cons (pv 0) (pa_cons (pe_ix ix_tup (pv 1) pe_int (fun _ _ => rfl)) pa_nil)))) (pss_one (ps_ret pe_str)) pss_nil)
        (pss_cons (ps_if (pt_cmpR op_eq (pe_ix ix_tup (pv 1) pe_int (fun _ _ => rfl)) pe_str (nomark _)) (pss_cons (ps_expr (pe_bm PySem.F.plainAttrs_list PySem.F.slot_list_pop PySem.F.type_list_pop mt_popAt (pv 3) (pa_cons (pe_bm PySem.F.plainAttrs_list PySem.F.slot_list_index PySem.F.type_list_index (mt_indexD (units_of hr)) (pv 3) (pa_cons (pv 4) pa_nil)) pa_nil)))
        (pss_one (ps_ret pe_str))) pss_nil)
        (pss_cons (ps_if (pt_cmpR op_eq (pe_callB call_len_seq (by rfl) z.len (by decide +kernel) (pa_cons (pv 3) pa_nil)) pe_int (nomark _)) (pss_one (ps_ret pe_str)) pss_nil)
        (pss_cons (ps_expr (pe_bm PySem.F.plainAttrs_list PySem.F.slot_list_append PySem.F.type_list_append mt_append (pv 3) (pa_cons (pv 4) pa_nil)))
        (pss_one (ps_ret pe_str))))))))))), ?_⟩
    obtain ⟨ys0, hst, rst⟩ := ls_at hT
    have D := O.v.ds p hp
    have v := O.v.ok p hp
    have sm : ∀ p ∈ s, TabSm p.2 := fun p hp => (O.v.ok p hp).sm
    have l6 := O.v.l6
    have l8 := v.l8
    have c4 := v.c4
    have u4 := v.u4
    have r4 := v.r4
    have DS : DGet H S (.str (lsT l)) (some (.ref p.1.d)) := by rw [← ep]; exact sch_getK O.v.sk O.v.nm hp
    have qe : ∀ z, codeT (tbs s) p.2 l = z → z ≠ "" → ∀ H', Same H H' → Q (.str z) H' := fun z e h H' s' => by subst e; exact q1 h H' s'
    clear q1

    obtain ⟨t, n, o, hP⟩ := hP
    let PT := Pt.r
    obtain ⟨xs, g2, g3⟩ := D.rf
    obtain ⟨n1, n2, n3⟩ := itD_nb lo.1
    obtain ⟨k1, k2⟩ := ptD_ok v PT
    have sh1 := shaped_of n2 (Nat.le_trans n3 (by decide))
    have sh2 := shapedL_of k1 (Nat.le_trans k2 (by decide))
    have ha := has_any v lo.1
    rcases hP with rfl | rfl
    · simp only [lsT, lsK] at hst DS ep
      cases tp_two rst
      have ha' : ((pyOfL (p.2.rf.map rfD)).any fun z => PyData.eqv z (pyOf (rfD (n, o)))) = memB p.2.rf (n, o) := ha
      refine ⟨_, rfl, _, rfl, st, _, 1, _, rfl, rfl, SqT.of (hst), atI_nat (j := 1) rfl, S, _, rfl, DS, _, rfl, p.1.d, _, rfl, D.gr, _, rfl, st, _, 2, _, rfl, rfl, SqT.of (hst), atI_nat (j := 2) rfl, _, rfl, st, _, 3, _, rfl, rfl, SqT.of (hst), atI_nat (j := 3) rfl, (by show 2 ≤ sizeLine; decide), fun pr hpr => ?_⟩
      have e0 := same_new hpr (.tup [.str n, .str o])
      have a3 : Tp _ (.ref pr) (rfD (n, o)) := rf_mk (p := (n, o)) (@upd_same H pr (.tup [.str n, .str o]))
      generalize hH0 : upd H pr (.tup [.str n, .str o]) = H0 at *
      have hst0 := e0 _ _ hst
      have O0 := O.v.mono e0
      have D0 := D.mono e0
      have DS0 : DGet H0 S (.str t) (some (.ref p.1.d)) := by rw [← ep]; exact sch_getK O0.sk O0.nm hp
      refine ⟨_, rfl, st, _, 0, _, rfl, rfl, SqT.of (hst0), atI_nat (j := 0) rfl, rfl, _, rfl, iteDF (by decide +kernel) ?_⟩
      refine ⟨_, rfl, st, _, 0, _, rfl, rfl, SqT.of (hst0), atI_nat (j := 0) rfl, rfl, _, rfl, iteDT rfl ?_⟩
      refine ⟨_, rfl, _, rfl, st, _, 2, _, rfl, rfl, SqT.of (hst0), atI_nat (j := 2) rfl, p.1, p.2, n, rfl, D0, v.co, fun hn => ?_, fun hn cc c hc hca => ?_⟩
      · refine ⟨_, rfl, rfl, _, rfl, iteDT rfl (iteT (qe "missing" ?_ (by decide +kernel) H0 e0))⟩
        simp only [codeT]; rw [if_neg hn]
      refine ⟨_, rfl, rfl, _, rfl, iteDF (fun z => nomatch z) ?_⟩
      refine ⟨_, rfl, st, _, 3, _, rfl, rfl, SqT.of (hst0), atI_nat (j := 3) rfl, _, rfl, S, _, rfl, O0.in', _, rfl, ?_⟩
      rw [sch_some]
      rcases tab_cases O0.nm o with ⟨h3, h4⟩ | ⟨p2, hp2, rfl, h4⟩
      · rw [decide_eq_false h3]
        refine qe "missing" ?_ (by decide +kernel) H0 e0
        simp only [codeT]; rw [if_pos hn, h4]
      have hin : p2.2.n ∈ schN s := List.mem_map.mpr ⟨p2, hp2, rfl⟩
      rw [decide_eq_true hin]
      obtain ⟨c', hc', ec1, ec2, hcm⟩ := idx_get hn
      rw [hc] at hc'
      cases hc'
      obtain ⟨kc, hkc, ek1, ek2, _⟩ := key_at v.l0
      obtain ⟨xk, ka, k3, k4, k5⟩ := D0.co.get hkc
      have km := List.mem_of_getElem? hkc
      have tk : Tp H0 (.ref ka) (colD kc) := .t k5 (.cons (.s rfl) (.cons (.s rfl) (.cons (.s rfl) .nil)))
      have okN : ∀ x ∈ p.2.cols, PyData.strOk x.n = true := fun x hx => colN_ok v.co (List.mem_map.mpr ⟨x, hx, rfl⟩)
      refine ⟨_, rfl, p.1.d, _, rfl, D0.gc, p.1.c, _, 0, _, rfl, rfl, SqL.of k3, atI_nat (j := 0) k4, _, rfl, _, _, tk.py, hca.py, col_cl (okN kc km) (v.co.kd kc km), col_cl (okN c hcm) (v.co.kd c hcm), _, rfl, ?_⟩
      rw [col_eqv_name (one_name v.co.nd hkc hc), ek1, ec1]
      refine ifD (fun hk => ?_) (fun hk => ?_)
      · refine qe "key" ?_ (by decide +kernel) H0 e0
        simp only [codeT]; rw [if_pos hn, h4]; exact if_pos hk.symm
      have hk' : ¬ n = keyN p.2 := fun z => hk z.symm
      refine ⟨_, rfl, st, _, 1, _, rfl, rfl, SqT.of (hst0), atI_nat (j := 1) rfl, _, rfl, st, _, 3, _, rfl, rfl, SqT.of (hst0), atI_nat (j := 3) rfl, rfl, _, rfl, ?_⟩
      refine ifD (fun hq => ?_) (fun hq => ?_)
      · refine qe "columns" ?_ (by decide +kernel) H0 e0
        simp only [codeT]; rw [if_pos hn, h4]; show (if n = keyN p.2 then _ else _) = _; rw [if_neg hk', if_pos (V.str.inj hq)]
      have hq' : ¬ t = p2.2.n := fun z => hq (congrArg V.str z)
      obtain ⟨kd, hkd, eq1, eq2, _⟩ := key_at (O0.ok p2 hp2).l0
      obtain ⟨xq, qa, q3, q4, q5⟩ := (O0.ds p2 hp2).co.get hkd
      obtain ⟨cc', hcc, hcd⟩ := col_at hca
      cases hcc
      refine ⟨_, rfl, _, rfl, st, _, 3, _, rfl, rfl, SqT.of (hst0), atI_nat (j := 3) rfl, S, _, rfl, sch_getK O0.sk O0.nm hp2, p2.1.d, _, rfl, (O0.ds p2 hp2).gc, p2.1.c, _, 0, _, rfl, rfl, SqL.of q3, atI_nat (j := 0) q4, qa, _, 1, _, rfl, rfl, SqT.of q5, atI_nat (j := 1) rfl, _, rfl, cc, _, 1, _, rfl, rfl, SqT.of hcd, atI_nat (j := 1) rfl, rfl, _, rfl, ?_⟩
      rw [eq2, ec2]
      refine ifN (fun hz => ?_) (fun hz => ?_)
      · have hz' : kindAt p.2.cols n ≠ keyK p2.2 := fun z => hz (by rw [z])
        refine qe "kind" ?_ (by decide +kernel) H0 e0
        simp only [codeT]; rw [if_pos hn, h4]; show (if n = keyN p.2 then _ else _) = _; rw [if_neg hk', if_neg hq', if_pos hz']
      have hz' : ¬ kindAt p.2.cols n ≠ keyK p2.2 := fun z => z (V.str.inj hz).symm
      refine ⟨_, rfl, _, rfl, _, _, a3.py, .lst (SqL.of (e0 _ _ g2)) (g3.mono (KeepT.of e0)).py, sh1, sh2, _, rfl, ?_⟩
      rw [ha']
      refine ite2 (fun h3 => ?_) (fun h3 => ?_)
      · refine qe "taken" ?_ (by decide +kernel) H0 e0
        simp only [codeT]; rw [if_pos hn, h4]; show (if n = keyN p.2 then _ else _) = _; rw [if_neg hk', if_neg hq', if_neg hz', if_pos h3]
      have cd : codeT (tbs s) p.2 (.addR t n p2.2.n) = fullM (tbs s) p.2 PT := by
        simp only [codeT]; rw [if_pos hn, h4]; show (if n = keyN p.2 then _ else _) = _; rw [if_neg hk', if_neg hq', if_neg hz', if_neg h3]
      refine ⟨_, rfl, _, rfl, st, _, 1, _, rfl, rfl, SqT.of (hst0), atI_nat (j := 1) rfl, S, s, t, rfl, (O.v.mono (e0)).sk, (O.v.mono (e0)).ds, O.v.nm, sm, by omega, fun H2 s2 => ⟨_, rfl, ?_⟩⟩
      have E2 := Same.trans (e0) s2
      have rfe : refdM (s.map (·.2)) t = refdM (tbs s) p.2.n := by rw [ep]; rfl
      have G2 := E2 _ _ g2
      have G3 := g3.mono (KeepT.of E2)
      have lx : xs.length = ptL p.2 PT := by rw [g3.length]; exact ptD_len p.2 PT

      refine ite2 (fun h4 => ?_) (fun h4 => ?_)
      · have hc : fullM (tbs s) p.2 PT = "referenced" := by unfold fullM; rw [if_pos (by rw [← rfe]; exact h4)]
        exact qe _ (cd.trans hc) (by decide +kernel) H2 E2
      refine ⟨_, rfl, st, _, 0, _, rfl, rfl, SqT.of (E2 _ _ hst), atI_nat (j := 0) rfl, rfl, _, rfl, iteDF (by decide +kernel) ?_⟩
      refine ⟨_, rfl, _, xs, rfl, .inl (SqL.of G2), rfl, _, rfl, ?_⟩
      refine ifD (fun h5 => ?_) (fun h5 => ?_)
      · have h5' : (xs.length : Int) = 4 := V.int.inj h5
        have hc : fullM (tbs s) p.2 PT = "limit" := by unfold fullM; rw [if_neg (by rw [← rfe]; exact h4), if_pos (by omega)]
        exact qe _ (cd.trans hc) (by decide +kernel) H2 E2
      · have h5' : ¬ (xs.length : Int) = 4 := fun z => h5 (congrArg V.int z)
        have l4 : ptL p.2 PT < 4 := by
          have : ptL p.2 PT ≤ 4 := by simp only [PT, ptL]; omega
          omega
        have hc : fullM (tbs s) p.2 PT = "" := by unfold fullM; rw [if_neg (by rw [← rfe]; exact h4), if_neg (by omega)]
        obtain ⟨s', b1, b2, b3, b4⟩ := O.add (l := .addR t n p2.2.n) E2 hp ep lo rfl l4 G3 (a3.mono (KeepT.of (s2)))
        exact ⟨_, rfl, .inl ⟨rfl, _, SqL.of G2⟩, _, rfl, _, xs, _, rfl, rfl, G2, small1000 (by omega), q2 (cd.trans hc) s' _ b1 b2 b3 b4⟩
    · simp only [lsT, lsK] at hst DS ep
      cases tp_two rst
      have ha' : ((pyOfL (p.2.rf.map rfD)).any fun z => PyData.eqv z (pyOf (rfD (n, o)))) = hasIt p.2 (.r (n, o)) := ha
      refine ⟨_, rfl, _, rfl, st, _, 1, _, rfl, rfl, SqT.of (hst), atI_nat (j := 1) rfl, S, _, rfl, DS, _, rfl, p.1.d, _, rfl, D.gr, _, rfl, st, _, 2, _, rfl, rfl, SqT.of (hst), atI_nat (j := 2) rfl, _, rfl, st, _, 3, _, rfl, rfl, SqT.of (hst), atI_nat (j := 3) rfl, (by show 2 ≤ sizeLine; decide), fun pr hpr => ?_⟩
      have e0 := same_new hpr (.tup [.str n, .str o])
      have a3 : Tp _ (.ref pr) (rfD (n, o)) := rf_mk (p := (n, o)) (@upd_same H pr (.tup [.str n, .str o]))
      generalize hH0 : upd H pr (.tup [.str n, .str o]) = H0 at *
      have hst0 := e0 _ _ hst
      refine ⟨_, rfl, st, _, 0, _, rfl, rfl, SqT.of (hst0), atI_nat (j := 0) rfl, rfl, _, rfl, iteDT rfl ?_⟩
      refine ⟨_, rfl, _, rfl, _, _, a3.py, .lst (SqL.of (e0 _ _ g2)) (g3.mono (KeepT.of e0)).py, sh1, sh2, _, rfl, ?_⟩
      rw [ha']
      refine ite2 (fun h3 => ?_) (fun h3 => ?_)
      · refine qe "missing" ?_ (by decide +kernel) H0 e0
        simp only [codeT, dropM]
        rw [if_neg (by simpa using h3)]
      have hi : hasIt p.2 (.r (n, o)) = true := by simpa using h3
      have cd : codeT (tbs s) p.2 (.dropR t n o) = (if refdM (tbs s) p.2.n = true then ("referenced" : Str) else ("" : Str)) := by simp only [codeT, dropM]; rw [if_pos hi]
      refine ⟨_, rfl, st, _, 0, _, rfl, rfl, SqT.of (hst0), atI_nat (j := 0) rfl, rfl, _, rfl, iteDF (by decide +kernel) ?_⟩
      refine ⟨_, rfl, _, rfl, st, _, 1, _, rfl, rfl, SqT.of (hst0), atI_nat (j := 1) rfl, S, s, t, rfl, (O.v.mono (e0)).sk, (O.v.mono (e0)).ds, O.v.nm, sm, by omega, fun H2 s2 => ⟨_, rfl, ?_⟩⟩
      have E2 := Same.trans (e0) s2
      have rfe : refdM (s.map (·.2)) t = refdM (tbs s) p.2.n := by rw [ep]; rfl
      have G2 := E2 _ _ g2
      have G3 := g3.mono (KeepT.of E2)
      have lx : xs.length = ptL p.2 PT := by rw [g3.length]; exact ptD_len p.2 PT

      refine ite2 (fun h4 => ?_) (fun h4 => ?_)
      · exact qe _ (cd.trans (if_pos (by rw [← rfe]; exact h4))) (by decide +kernel) H2 E2
      have hc := cd.trans (if_neg (by rw [← rfe]; exact h4))
      obtain ⟨j, z, hj, j1, j2, j3, s', b1, b2, b3, b4⟩ := O.del (l := .dropR t n o) E2 hp ep lo rfl hi G3
      obtain ⟨n1, n2, n3⟩ := itD_nb lo.1
      obtain ⟨k1, k2⟩ := ptD_ok v PT
      have sh1 := shaped_of n2 (Nat.le_trans n3 (by decide))
      have sh2 := shapedL_of k1 (Nat.le_trans k2 (by decide))
      have c4' : ptL p.2 PT ≤ 4 := by simp only [PT, ptL]; omega
      refine ⟨_, rfl, st, _, 0, _, rfl, rfl, SqT.of (E2 _ _ hst), atI_nat (j := 0) rfl, rfl, _, rfl, iteDT rfl ?_⟩
      exact ⟨_, rfl, .inl ⟨rfl, _, SqL.of G2⟩, _, rfl, .inl ⟨rfl, _, SqL.of G2⟩, _, rfl, _, _, _, _, j, z, rfl, rfl, .lst (SqL.of G2) G3.py, (a3.mono (KeepT.of (s2))).py, sh2, sh1, j1, j2, j3, _, xs, (j : Int), j, xs[j], rfl, rfl, G2, by omega, by omega, seq_nat hj, List.getElem?_eq_getElem hj, q2 hc s' _ b1 b2 b3 b4⟩)
theorem ok_law_expected {f : Addr} {fd : FuncData} (k : Kn K mg "_law_expected" s_law_expected ["schema", "step"] f fd) (z : Z K mg)
    {g_law_copy : Addr} {gd_law_copy : FuncData} (c_law_copy : Cal P w K mg base 9 "_law_copy" ["thing"] (spCopyG 9) g_law_copy gd_law_copy)
    {g_law_check : Addr} {gd_law_check : FuncData} (c_law_check : Cal P w K mg base 2 "_law_check" ["schema", "step"] (spExp (fun l => ∃ t c, l = .addC t c ∨ l = .dropC t c)) g_law_check gd_law_check)
    {g_law_unique : Addr} {gd_law_unique : FuncData} (c_law_unique : Cal P w K mg base 2 "_law_unique" ["schema", "step"] (spExp (fun l => ∃ t n, l = .addU t n ∨ l = .dropU t n)) g_law_unique gd_law_unique)
    {g_law_reference : Addr} {gd_law_reference : FuncData} (c_law_reference : Cal P w K mg base 2 "_law_reference" ["schema", "step"] (spExp (fun l => ∃ t n o, l = .addR t n o ∨ l = .dropR t n o)) g_law_reference gd_law_reference) :
    Cal P w K mg base 10 "_law_expected" ["schema", "step"] (spExpected) f fd := k.cal (by
  refine k.F.ok sc_law_expected (fun vs H Q E h => ?_) (fun cdv A outer s H vs Q E hr h => ?_)
  · obtain ⟨S, s, st, l, rfl, _⟩ := h; rfl
  · obtain ⟨S, s, st, l, rfl, B, hT, lo, q1, q2⟩ := h
    have hu := hu_of hr
    refine ⟨_, (pss_cons (ps_if (pt_cmp (pc_dnotin hu (pe_ix ix_tup (pv 1) pe_int (fun _ _ => rfl)) (pv 0))) (pss_one (ps_ret (pe_tup (pa_cons pe_non (pa_cons pe_str pa_nil))))) pss_nil)
        (pss_cons (ps_set (i := 0) sc_law_expected.nd rfl (Or.inl rfl) (pe_call c_law_copy.G (hr.mono (by decide)) (by rfl) c_law_copy.m c_law_copy.kp c_law_copy.b .nil pass0 (pa_cons (pv 0) pa_nil)))
        (pss_cut (ps_if (pt_cmpR op_in_str pe_str (pe_ix ix_tup (pv 1) pe_int (fun _ _ => rfl)) (by rfl)) (pss_one (ps_set (i := 2) sc_law_expected.nd rfl (Or.inl rfl) (pe_call c_law_check.G (hr.mono (by decide)) (by rfl) c_law_check.m c_law_check.kp c_law_check.b .nil pass0 (pa_cons (pv 0) (pa_cons (pv 1) pa_nil))))) (pss_one (ps_if (pt_cmpR op_in_str pe_str (pe_ix ix_tup (pv 1) pe_int (fun _ _ => rfl)) (by rfl)) (pss_one (ps_set (i := 2) sc_law_expected.nd rfl (Or.inl rfl) (pe_call c_law_unique.G (hr.mono (by decide)) (by rfl) c_law_unique.m c_law_unique.kp c_law_unique.b .nil pass0 (pa_cons (pv 0) (pa_cons (pv 1) pa_nil))))) (pss_one (ps_set (i := 2) sc_law_expected.nd rfl (Or.inl rfl) (pe_call c_law_reference.G (hr.mono (by decide)) (by rfl) c_law_reference.m c_law_reference.kp c_law_reference.b .nil pass0 (pa_cons (pv 0) (pa_cons (pv 1) pa_nil))))))))
        (pss_cons (ps_if (pt_cmpR op_ne (pv 2) pe_str (nomark _)) (pss_one (ps_ret (pe_tup (pa_cons pe_non (pa_cons (pv 2) pa_nil))))) pss_nil)
        (pss_one (ps_ret (pe_tup (pa_cons (pv 0) (pa_cons pe_str pa_nil))))))))), ?_⟩
    obtain ⟨ys0, hst, rst⟩ := ls_at hT
    have sm : ∀ p ∈ s, TabSm p.2 := fun p hp => (B.ok p hp).sm
    have l6 := B.l6
    refine ⟨_, rfl, st, _, 1, _, rfl, rfl, SqT.of (hst), atI_nat (j := 1) rfl, _, rfl, S, _, rfl, B.in', _, rfl, ?_⟩
    rw [sch_some]
    rcases tab_cases B.nm (lsT l) with ⟨h1, h2⟩ | ⟨p, hp, ep, h2⟩
    · rw [decide_eq_false h1]
      refine iteT ⟨(by show 2 ≤ sizeLine; decide), fun pr hpr => ?_⟩
      have e : codeL (tbs s) l = "missing" := by unfold codeL; rw [h2]
      exact q1 (by rw [e]; decide +kernel) pr _ (by rw [e]; exact upd_same) (same_new hpr _)
    have hin : lsT l ∈ schN s := by rw [← ep]; exact List.mem_map.mpr ⟨p, hp, rfl⟩
    rw [decide_eq_true hin]
    have neS := desc_ne B.sk B.ds
    refine iteF ⟨_, rfl, .ref S, schG s, _, rfl, sch_gp B.sk B.ds B.nm sm (by omega) neS, Nat.lt_of_le_of_lt (sch_dep s) (by decide), fun x' X H1 hx s1 fr nd => ?_⟩
    obtain ⟨S', s', rfl, O, et, rfl⟩ := Own.copy B hx nd
    obtain ⟨p', hp', ep'⟩ : ∃ p' ∈ s', p'.2 = p.2 := by
      have : p.2 ∈ tbs s' := by rw [et]; exact List.mem_map.mpr ⟨p, hp, rfl⟩
      obtain ⟨q, h3, h4⟩ := List.mem_map.mp this
      exact ⟨q, h3, h4⟩
    have ec : codeL (tbs s) l = codeT (tbs s') p'.2 l := by unfold codeL; rw [h2, et, ep']
    have hst1 := s1 _ _ hst
    have frL : ∀ b ∈ schL s', H b = none := fun b hb => fr b (List.mem_cons_of_mem _ ((schD_sub s').2.subset hb))
    refine ⟨fun σ H' => (codeL (tbs s) l ≠ "" ∧ σ = [some (.ref S'), some (.ref st), some (.str (codeL (tbs s) l))] ∧ Same H H') ∨ (codeL (tbs s) l = "" ∧ ∃ s2, σ = [some (.ref S'), some (.ref st), some (.str "")] ∧ Own H' S' s2 ∧ tbs s2 = targL (tbs s) l ∧ schD s2 = schD s' ∧ Same H H'), ?_, ?_⟩
    · have call : ∀ (P : LS → Prop), P l → spExp P [.ref S', .ref st] H1 (fun v H' => (codeL (tbs s) l ≠ "" ∧ [some (V.ref S'), some (V.ref st), some v] = [some (.ref S'), some (.ref st), some (.str (codeL (tbs s) l))] ∧ Same H H') ∨ (codeL (tbs s) l = "" ∧ ∃ s2, [some (V.ref S'), some (V.ref st), some v] = [some (.ref S'), some (.ref st), some (.str "")] ∧ Own H' S' s2 ∧ tbs s2 = targL (tbs s) l ∧ schD s2 = schD s' ∧ Same H H')) E0 := fun P hP =>
        ⟨S', s', st, l, p', rfl, O, hT.mono (KeepT.of s1), lo, hP, hp', by rw [ep', ep], fun hc H2 s2 => .inl ⟨by rw [ec]; exact hc, by rw [ec], s1.trans s2⟩, fun hc s2 H2 O2 ad tb2 se => .inr ⟨by rw [ec]; exact hc, s2, rfl, O2, by rw [tb2, et], schD_of ad, fun b o hb => se _ _ (s1 _ _ hb) (fun z => by rw [frL b z] at hb; cases hb)⟩⟩
      cases l with
      | addC t c => simp only [lsK] at hst1; exact ⟨_, rfl, st, _, 0, _, rfl, rfl, SqT.of (hst1), atI_nat (j := 0) rfl, _, _, rfl, rfl, _, rfl, iteBT (by decide +kernel) ⟨_, rfl, _, rfl, call _ ⟨_, _, .inl rfl⟩⟩⟩
      | dropC t c => simp only [lsK] at hst1; exact ⟨_, rfl, st, _, 0, _, rfl, rfl, SqT.of (hst1), atI_nat (j := 0) rfl, _, _, rfl, rfl, _, rfl, iteBT (by decide +kernel) ⟨_, rfl, _, rfl, call _ ⟨_, _, .inr rfl⟩⟩⟩
      | addU t n => simp only [lsK] at hst1; exact ⟨_, rfl, st, _, 0, _, rfl, rfl, SqT.of (hst1), atI_nat (j := 0) rfl, _, _, rfl, rfl, _, rfl, iteBF (by decide +kernel) ⟨_, rfl, st, _, 0, _, rfl, rfl, SqT.of (hst1), atI_nat (j := 0) rfl, _, _, rfl, rfl, _, rfl, iteBT (by decide +kernel) ⟨_, rfl, _, rfl, call _ ⟨_, _, .inl rfl⟩⟩⟩⟩
      | dropU t n => simp only [lsK] at hst1; exact ⟨_, rfl, st, _, 0, _, rfl, rfl, SqT.of (hst1), atI_nat (j := 0) rfl, _, _, rfl, rfl, _, rfl, iteBF (by decide +kernel) ⟨_, rfl, st, _, 0, _, rfl, rfl, SqT.of (hst1), atI_nat (j := 0) rfl, _, _, rfl, rfl, _, rfl, iteBT (by decide +kernel) ⟨_, rfl, _, rfl, call _ ⟨_, _, .inr rfl⟩⟩⟩⟩
      | addR t n o => simp only [lsK] at hst1; exact ⟨_, rfl, st, _, 0, _, rfl, rfl, SqT.of (hst1), atI_nat (j := 0) rfl, _, _, rfl, rfl, _, rfl, iteBF (by decide +kernel) ⟨_, rfl, st, _, 0, _, rfl, rfl, SqT.of (hst1), atI_nat (j := 0) rfl, _, _, rfl, rfl, _, rfl, iteBF (by decide +kernel) ⟨_, rfl, _, rfl, call _ ⟨_, _, _, .inl rfl⟩⟩⟩⟩
      | dropR t n o => simp only [lsK] at hst1; exact ⟨_, rfl, st, _, 0, _, rfl, rfl, SqT.of (hst1), atI_nat (j := 0) rfl, _, _, rfl, rfl, _, rfl, iteBF (by decide +kernel) ⟨_, rfl, st, _, 0, _, rfl, rfl, SqT.of (hst1), atI_nat (j := 0) rfl, _, _, rfl, rfl, _, rfl, iteBF (by decide +kernel) ⟨_, rfl, _, rfl, call _ ⟨_, _, _, .inr rfl⟩⟩⟩⟩
    · rintro σ H2 (⟨hc, rfl, s2⟩ | ⟨hc, s2, rfl, O2, tb2, ed, se⟩)
      · refine ⟨_, rfl, rfl, _, rfl, iteNF (fun z => hc (V.str.inj z)) ?_⟩
        refine ⟨_, rfl, (by show 2 ≤ sizeLine; decide), fun pr hpr => ?_⟩
        exact q1 hc pr _ upd_same (s2.trans (same_new hpr _))
      · refine ⟨_, rfl, rfl, _, rfl, iteNS rfl ?_⟩
        refine ⟨_, rfl, (by show 2 ≤ sizeLine; decide), fun pr hpr => ?_⟩
        have e3 := same_new hpr (.tup [.ref S', .str ""])
        exact q2 hc pr S' s2 _ upd_same (O2.mono e3) tb2 (fun a ha => fr a (by rw [← ed]; exact ha)) (se.trans e3))
theorem ok_kind_of {f : Addr} {fd : FuncData} (k : Kn K mg "kind_of" s_kind_of ["value"] f fd) (z : Z K mg) :
    Cal P w K mg base 1 "kind_of" ["value"] (spKindOf) f fd := k.cal (by
  refine k.F.ok sc_kind_of (fun vs H Q E h => ?_) (fun cdv A outer s H vs Q E hr h => ?_)
  · obtain ⟨v, rfl, _⟩ := h; rfl
  · obtain ⟨v, rfl, hv, q⟩ := h
    refine ⟨_, (pss_cons (ps_if (pt_cmpR op_isN (pv 0) pe_non (nomark _)) (pss_one (ps_ret pe_str)) pss_nil)
        (pss_cons (ps_if (pt_val (pe_callB call_isi (by rfl) z.isinstance (by decide +kernel) (pa_cons (pv 0) (pa_cons (pe_bltn (v := .ty "int") (u := .type "int") (by rfl) z.int (by decide +kernel) rfl) pa_nil)))) (pss_one (ps_ret pe_str)) pss_nil)
        (pss_one (ps_ret pe_str)))), ?_⟩
    refine ⟨_, rfl, rfl, _, rfl, ?_⟩
    cases v with
    | non => exact iteDT rfl q
    | bl b => exact iteDF (fun e => nomatch e) ⟨_, rfl, _, _, _, _, true, rfl, .ty _, .base (.bl b), kit_ty (by decide +kernel), _, rfl, q⟩
    | int i => exact iteDF (fun e => nomatch e) ⟨_, rfl, _, _, _, _, true, rfl, .ty _, .base (.int i), kit_ty (by decide +kernel), _, rfl, q⟩
    | str y => exact iteDF (fun e => nomatch e) ⟨_, rfl, _, _, _, _, false, rfl, .ty _, .base (.str y), kit_ty (by decide +kernel), _, rfl, q⟩
    | byt _ => cases hv
    | flt _ => cases hv
    | ref _ => cases hv
    | ty _ => cases hv)
theorem ok_is_text_code {f : Addr} {fd : FuncData} (k : Kn K mg "is_text_code" s_is_text_code ["code"] f fd) (z : Z K mg) :
    Cal P w K mg base 1 "is_text_code" ["code"] (spIsCode) f fd := k.cal (by
  obtain ⟨t_PERCENT_CODE, k_PERCENT_CODE⟩ := z.c_PERCENT_CODE
  obtain ⟨t_LAST_CODE, k_LAST_CODE⟩ := z.c_LAST_CODE
  obtain ⟨t_FIRST_CODE, k_FIRST_CODE⟩ := z.c_FIRST_CODE
  refine k.F.ok sc_is_text_code (fun vs H Q E h => ?_) (fun cdv A outer s H vs Q E hr h => ?_)
  · obtain ⟨c, rfl, _⟩ := h; rfl
  · obtain ⟨c, rfl, q⟩ := h
    refine ⟨_, (pss_one (ps_ret (pe_and (pe_cmpR op_le (pe_glob (v := .int (32)) rfl k_FIRST_CODE ⟨_, rfl⟩) (pv 0) (nomark _)) (pe_and (pe_cmpR op_le (pv 0) (pe_glob (v := .int (126)) rfl k_LAST_CODE ⟨_, rfl⟩) (nomark _)) (pe_one (pe_cmpR op_ne (pv 0) (pe_glob (v := .int (37)) rfl k_PERCENT_CODE ⟨_, rfl⟩) (nomark _))))))), ?_⟩
    refine ⟨_, rfl, _, _, rfl, rfl, _, rfl, ?_⟩
    refine ifD (fun h1 => ?_) (fun h1 => ?_)
    · refine ⟨_, rfl, _, _, rfl, rfl, _, rfl, ?_⟩
      refine ifD (fun h2 => ?_) (fun h2 => ?_)
      · refine ⟨_, rfl, rfl, ?_⟩
        have e : (!decide (V.int c = V.int 37)) = decide (codeOk c) := by
          by_cases h3 : c = 37
          · subst h3; decide
          · have a : ¬ (V.int c = V.int 37) := fun z => h3 (V.int.inj z)
            rw [decide_eq_false a, decide_eq_true (show codeOk c from ⟨h1, h2, h3⟩)]
            rfl
        rw [e]
        exact q
      · rw [decide_eq_false (show ¬ codeOk c from fun z => h2 z.2.1)] at q
        exact q
    · rw [decide_eq_false (show ¬ codeOk c from fun z => h1 z.1)] at q
      exact q)
theorem ok_is_text_character {f : Addr} {fd : FuncData} (k : Kn K mg "is_text_character" s_is_text_character ["character"] f fd) (z : Z K mg)
    {g_is_text_code : Addr} {gd_is_text_code : FuncData} (c_is_text_code : Cal P w K mg base 1 "is_text_code" ["code"] (spIsCode) g_is_text_code gd_is_text_code) :
    Cal P w K mg base 2 "is_text_character" ["character"] (spIsChar) f fd := k.cal (by
  refine k.F.ok sc_is_text_character (fun vs H Q E h => ?_) (fun cdv A outer s H vs Q E hr h => ?_)
  · obtain ⟨c, rfl, _⟩ := h; rfl
  · obtain ⟨c, rfl, q⟩ := h
    refine ⟨_, (pss_one (ps_ret (pe_call c_is_text_code.G (hr.mono (by decide)) (by rfl) c_is_text_code.m c_is_text_code.kp c_is_text_code.b .nil pass0 (pa_cons (pe_callB call_ord (by rfl) z.ord (by decide +kernel) (pa_cons (pv 0) pa_nil)) pa_nil)))), ?_⟩
    refine ⟨_, rfl, one c, rfl, rfl, (c : Int), rfl, ?_⟩
    have e : decide (codeOk (c : Int)) = decide (chOk c) := by
      by_cases h : chOk c
      · rw [decide_eq_true h, decide_eq_true]
        unfold chOk at h; unfold codeOk; omega
      · rw [decide_eq_false h, decide_eq_false]
        intro z
        apply h
        unfold codeOk at z; unfold chOk; omega
    rw [e]
    exact q)
theorem ok_is_text {f : Addr} {fd : FuncData} (k : Kn K mg "is_text" s_is_text ["thing"] f fd) (z : Z K mg)
    {g_is_text_character : Addr} {gd_is_text_character : FuncData} (c_is_text_character : Cal P w K mg base 2 "is_text_character" ["character"] (spIsChar) g_is_text_character gd_is_text_character) :
    Cal P w K mg base 3 "is_text" ["thing"] (spIsText) f fd := k.cal (by
  obtain ⟨t_MOST_CHARACTERS, k_MOST_CHARACTERS⟩ := z.c_MOST_CHARACTERS
  refine k.F.ok sc_is_text (fun vs H Q E h => ?_) (fun cdv A outer s H vs Q E hr h => ?_)
  · obtain ⟨z, rfl, _⟩ := h; rfl
  · obtain ⟨zz, rfl, hl, q⟩ := h
    refine ⟨_, (pss_one (ps_ret (pe_and (pe_cmpR op_le (pe_callB call_len_str (by rfl) z.len (by decide +kernel) (pa_cons (pv 0) pa_nil)) (pe_glob (v := .int (30)) rfl k_MOST_CHARACTERS ⟨_, rfl⟩) (nomark _)) (pe_one (pe_callB (cr_all rfl) (by rfl) z.all (by decide +kernel) (pa_cons (pe_lc (own := [("character", 1)]) (g := gName 1) (tt := tYes) (by rfl) sc_is_text.nd (pi_str (pv 0)) (blkOk_by (own := [("character", 1)]) (N := ["thing", "character"]) (sc := defScope s_is_text) (by decide +kernel)) (fun _ _ _ _ _ => pg_name (i := 1) sc_is_text.nd rfl (Or.inl rfl)) (fun _ _ _ _ _ => pts_nil) (fun _ _ _ _ _ => (pe_call c_is_text_character.G (hr.mono (by decide)) (by rfl) c_is_text_character.m c_is_text_character.kp c_is_text_character.b .nil pass0 (pa_cons (pv 1) pa_nil)))) pa_nil)))))), ?_⟩
    refine ⟨_, rfl, _, rfl, Nat.le_of_lt (small1000 hl), _, _, rfl, rfl, _, rfl, ?_⟩
    have ln : zz.length = zz.cps.size := rfl
    refine ifD (fun h1 => ?_) (fun h1 => ?_)
    · refine ⟨_, rfl, zz, rfl, fun D hD => lc_it walk_str (fun i H' => H' D = some (.lst (((tl zz).take i).map fun c => V.bl (decide (chOk c)))) ∧ Same H H') ⟨upd_same, same_new hD _⟩ (fun _ _ _ _ => True.intro) ?_ ?_⟩
      · rintro i x H1 H2 hi ⟨hD1, s1⟩ ⟨e1, c, e2, rfl⟩
        subst e1
        have ec : (tl zz)[i]? = some c := by rw [← e2]; exact Array.getElem?_toList
        refine ⟨rfl, _, rfl, c, rfl, _, hD1, (by rw [List.length_map, List.length_take]; exact small1000 (by omega)), ?_, same_upd hD _ s1⟩
        rw [upd_same, List.take_succ, ec]
        simp
      · rintro H1 ⟨hD1, s1⟩
        have e : (tl zz).take zz.cps.size = tl zz := List.take_of_length_le (by simp [tl])
        rw [e] at hD1
        have hD2 : H1 D = some (.lst (((tl zz).map fun c => decide (chOk c)).map V.bl)) := by rw [hD1, List.map_map]; rfl
        refine ⟨D, _, rfl, SqL.of hD2, ?_⟩
        have eg : ((tl zz).map fun c => decide (chOk c)).all id = goodV (.str zz) := by
          unfold goodV
          rw [Bool.eq_iff_iff, List.all_eq_true, decide_eq_true_iff]
          constructor
          · intro h
            exact ⟨by omega, fun c hc => of_decide_eq_true (h (decide (chOk c)) (List.mem_map.mpr ⟨c, hc, rfl⟩))⟩
          · rintro ⟨_, h⟩ b hb
            obtain ⟨c, hc, rfl⟩ := List.mem_map.mp hb
            exact decide_eq_true (h c hc)
        rw [eg]
        exact q _ s1
    · have eg : goodV (.str zz) = false := decide_eq_false fun z => h1 (by have := z.1; omega)
      rw [eg] at q
      exact q _ (Same.refl _))
theorem ok_is_value {f : Addr} {fd : FuncData} (k : Kn K mg "is_value" s_is_value ["thing"] f fd) (z : Z K mg)
    {g_is_text : Addr} {gd_is_text : FuncData} (c_is_text : Cal P w K mg base 3 "is_text" ["thing"] (spIsText) g_is_text gd_is_text) :
    Cal P w K mg base 4 "is_value" ["thing"] (spIsValue) f fd := k.cal (by
  obtain ⟨t_GREATEST, k_GREATEST⟩ := z.c_GREATEST
  obtain ⟨t_LEAST, k_LEAST⟩ := z.c_LEAST
  refine k.F.ok sc_is_value (fun vs H Q E h => ?_) (fun cdv A outer s H vs Q E hr h => ?_)
  · obtain ⟨v, rfl, _⟩ := h; rfl
  · obtain ⟨v, rfl, hv, q⟩ := h
    refine ⟨_, (pss_cons (ps_if (pt_cmpR op_isN (pv 0) pe_non (nomark _)) (pss_one (ps_ret pe_bl)) pss_nil)
        (pss_cons (ps_if (pt_val (pe_callB call_isi (by rfl) z.isinstance (by decide +kernel) (pa_cons (pv 0) (pa_cons (pe_bltn (v := .ty "bool") (u := .type "bool") (by rfl) z.bool (by decide +kernel) rfl) pa_nil)))) (pss_one (ps_ret pe_bl)) pss_nil)
        (pss_cons (ps_if (pt_val (pe_callB call_isi (by rfl) z.isinstance (by decide +kernel) (pa_cons (pv 0) (pa_cons (pe_bltn (v := .ty "int") (u := .type "int") (by rfl) z.int (by decide +kernel) rfl) pa_nil)))) (pss_one (ps_ret (pe_and (pe_cmpR op_le (pe_glob (v := .int (-999999999)) rfl k_LEAST ⟨_, rfl⟩) (pv 0) (nomark _)) (pe_one (pe_cmpR op_le (pv 0) (pe_glob (v := .int (999999999)) rfl k_GREATEST ⟨_, rfl⟩) (nomark _)))))) pss_nil)
        (pss_one (ps_ret (pe_and (pe_callB call_isi (by rfl) z.isinstance (by decide +kernel) (pa_cons (pv 0) (pa_cons (pe_bltn (v := .ty "str") (u := .type "str") (by rfl) z.str (by decide +kernel) rfl) pa_nil))) (pe_one (pe_call c_is_text.G (hr.mono (by decide)) (by rfl) c_is_text.m c_is_text.kp c_is_text.b .nil pass0 (pa_cons (pv 0) pa_nil))))))))), ?_⟩
    refine ⟨_, rfl, rfl, _, rfl, ?_⟩
    cases hv with
    | non => exact iteDT rfl (q _ (Same.refl _))
    | bl b => exact iteDF (fun e => nomatch e) ⟨_, rfl, _, _, _, _, true, rfl, .ty _, .base (.bl b), kit_ty (by decide +kernel), _, rfl, q _ (Same.refl _)⟩
    | int i =>
      refine iteDF (fun e => nomatch e) ⟨_, rfl, _, _, _, _, false, rfl, .ty _, .base (.int i), kit_ty (by decide +kernel), _, rfl, ?_⟩
      refine ⟨_, rfl, _, _, _, _, true, rfl, .ty _, .base (.int i), kit_ty (by decide +kernel), _, rfl, ?_⟩
      refine ⟨_, rfl, _, _, rfl, rfl, _, rfl, ?_⟩
      refine ifD (fun h1 => ?_) (fun h1 => ?_)
      · refine ⟨_, rfl, _, _, rfl, rfl, ?_⟩
        have e : decide (i ≤ 999999999) = goodV (.int i) := by
          by_cases h2 : i ≤ 999999999
          · rw [decide_eq_true h2]; exact (decide_eq_true (by omega)).symm
          · rw [decide_eq_false h2]; exact (decide_eq_false (by omega)).symm
        show Q (.bl (decide (i ≤ 999999999))) H
        rw [e]
        exact q _ (Same.refl _)
      · have e : goodV (.int i) = false := decide_eq_false (by omega)
        rw [e] at q
        exact q _ (Same.refl _)
    | str y hy =>
      refine iteDF (fun e => nomatch e) ⟨_, rfl, _, _, _, _, false, rfl, .ty _, .base (.str y), kit_ty (by decide +kernel), _, rfl, ?_⟩
      refine ⟨_, rfl, _, _, _, _, false, rfl, .ty _, .base (.str y), kit_ty (by decide +kernel), _, rfl, ?_⟩
      refine ⟨_, rfl, _, _, _, _, true, rfl, .ty _, .base (.str y), kit_ty (by decide +kernel), _, rfl, ?_⟩
      exact ⟨_, rfl, y, rfl, hy, q⟩
    | lst ha =>
      refine iteDF (fun e => nomatch e) ⟨_, rfl, _, _, _, _, false, rfl, .ty _, .base (.lst ha), kit_ty (by decide +kernel), _, rfl, ?_⟩
      refine ⟨_, rfl, _, _, _, _, false, rfl, .ty _, .base (.lst ha), kit_ty (by decide +kernel), _, rfl, ?_⟩
      exact ⟨_, rfl, _, _, _, _, false, rfl, .ty _, .base (.lst ha), kit_ty (by decide +kernel), _, rfl, q _ (Same.refl _)⟩
    | tup ha =>
      refine iteDF (fun e => nomatch e) ⟨_, rfl, _, _, _, _, false, rfl, .ty _, .base (.tup ha), kit_ty (by decide +kernel), _, rfl, ?_⟩
      refine ⟨_, rfl, _, _, _, _, false, rfl, .ty _, .base (.tup ha), kit_ty (by decide +kernel), _, rfl, ?_⟩
      exact ⟨_, rfl, _, _, _, _, false, rfl, .ty _, .base (.tup ha), kit_ty (by decide +kernel), _, rfl, q _ (Same.refl _)⟩)
theorem ok_fits_kind {f : Addr} {fd : FuncData} (k : Kn K mg "fits_kind" s_fits_kind ["thing", "kind", "nullable"] f fd) (z : Z K mg)
    {g_kind_of : Addr} {gd_kind_of : FuncData} (c_kind_of : Cal P w K mg base 1 "kind_of" ["value"] (spKindOf) g_kind_of gd_kind_of)
    {g_is_value : Addr} {gd_is_value : FuncData} (c_is_value : Cal P w K mg base 4 "is_value" ["thing"] (spIsValue) g_is_value gd_is_value) :
    Cal P w K mg base 5 "fits_kind" ["thing", "kind", "nullable"] (spFitsKind) f fd := k.cal (by
  refine k.F.ok sc_fits_kind (fun vs H Q E h => ?_) (fun cdv A outer s H vs Q E hr h => ?_)
  · obtain ⟨v, kk, b, rfl, _⟩ := h; rfl
  · obtain ⟨v, kk, b, rfl, hv, q⟩ := h
    refine ⟨_, (pss_cons (ps_if (pt_cmpR op_isN (pv 0) pe_non (nomark _)) (pss_one (ps_ret (pv 2))) pss_nil)
        (pss_one (ps_ret (pe_and (pe_call c_is_value.G (hr.mono (by decide)) (by rfl) c_is_value.m c_is_value.kp c_is_value.b .nil pass0 (pa_cons (pv 0) pa_nil)) (pe_one (pe_cmpR op_eq (pe_call c_kind_of.G (hr.mono (by decide)) (by rfl) c_kind_of.m c_kind_of.kp c_kind_of.b .nil pass0 (pa_cons (pv 0) pa_nil)) (pv 1) (nomark _))))))), ?_⟩
    refine ⟨_, rfl, rfl, _, rfl, ?_⟩
    refine ifD (fun h1 => ?_) (fun h1 => ?_)
    · have e : fitsK v kk b = b := by unfold fitsK; rw [if_pos h1]
      rw [e] at q
      exact ⟨_, rfl, q _ (Same.refl _)⟩
    have e : fitsK v kk b = (goodV v && decide (kindOf v = kk)) := by unfold fitsK; rw [if_neg h1]
    rw [e] at q
    refine ⟨_, rfl, v, rfl, hv, fun H1 s1 => ⟨_, rfl, ?_⟩⟩
    refine ite2 (fun hg => ?_) (fun hg => ?_)
    · have hs : isScal v = true := by
        cases hv with
        | non => rfl
        | bl b => rfl
        | int i => rfl
        | str z h => rfl
        | lst h => cases hg
        | tup h => cases hg
      refine ⟨_, rfl, v, rfl, hs, _, rfl, rfl, ?_⟩
      have e2 : decide (V.str (kindOf v) = V.str kk) = (goodV v && decide (kindOf v = kk)) := by
        rw [hg, Bool.true_and]
        by_cases h : kindOf v = kk
        · rw [decide_eq_true h, decide_eq_true (congrArg V.str h)]
        · rw [decide_eq_false h, decide_eq_false (fun z => h (V.str.inj z))]
      rw [e2]
      exact q _ s1
    · have hg' : goodV v = false := by simpa using hg
      rw [hg', Bool.false_and] at q
      exact q _ s1)
theorem ok_clause_fits {f : Addr} {fd : FuncData} (k : Kn K mg "clause_fits" s_clause_fits ["clause", "kinds"] f fd) (z : Z K mg)
    {g_fits_kind : Addr} {gd_fits_kind : FuncData} (c_fits_kind : Cal P w K mg base 5 "fits_kind" ["thing", "kind", "nullable"] (spFitsKind) g_fits_kind gd_fits_kind) :
    Cal P w K mg base 6 "clause_fits" ["clause", "kinds"] (fun vs H Q _ => ∃ (a d : Addr) (cl : Cl) (cols : List Col), vs = [.ref a, .ref d] ∧ Tp H (.ref a) (clD cl) ∧ H d = some (.dK (kindsD cols)) ∧ ClG cl ∧ ∀ H', Same H H' → Q (.bl (clFits cols cl)) H') f fd := k.cal (by
  refine k.F.ok sc_clause_fits (fun vs H Q E h => ?_) (fun cdv A outer s H vs Q E hr h => ?_)
  · obtain ⟨a, d, cl, cols, rfl, _⟩ := h; rfl
  · obtain ⟨a, d, cl, cols, rfl, ha, hd, hg, q⟩ := h
    have hu := hu_of hr
    obtain ⟨a', e, ha, hsc⟩ := cl_at ha
    cases e
    refine ⟨_, (pss_cons (ps_asg (pv 0) (pg_tup (by rfl) (pgs_cons (pg_name (i := 2) sc_clause_fits.nd rfl (Or.inl rfl)) (pgs_cons (pg_name (i := 3) sc_clause_fits.nd rfl (Or.inl rfl)) (pgs_cons (pg_name (i := 4) sc_clause_fits.nd rfl (Or.inl rfl)) pgs_nil)))))
        (pss_one (ps_ret (pe_and (pe_cmp (pc_din hu (pv 2) (pv 1)) rfl) (pe_one (pe_call c_fits_kind.G (hr.mono (by decide)) (by rfl) c_fits_kind.m c_fits_kind.kp c_fits_kind.b .nil pass0 (pa_cons (pv 4) (pa_cons (pe_dget hu (pv 1) (pv 2) (fun _ _ => rfl)) (pa_cons pe_bl pa_nil))))))))), ?_⟩
    refine ⟨_, rfl, a, _, rfl, SqT.of ha, rfl, _, _, rfl, _, _, rfl, _, _, rfl, rfl, ?_⟩
    have g := DGet.k (k := (Sum.inr cl.n : Key)) hd
    rw [kinds_get] at g
    refine ⟨_, rfl, _, rfl, d, _, rfl, g, _, rfl, ?_⟩
    by_cases hn : cl.n ∈ colNs cols
    · rw [if_pos hn] at g
      rw [if_pos hn]
      refine ⟨_, rfl, _, rfl, _, rfl, d, _, rfl, g, cl.v, _, true, rfl, hg.thing, fun H1 s1 => ?_⟩
      have e : fitsK cl.v (kindAt cols cl.n) true = clFits cols cl := by unfold clFits; rw [decide_eq_true hn, Bool.true_and]
      rw [e]
      exact q _ s1
    · rw [if_neg hn]
      have e : clFits cols cl = false := by unfold clFits; rw [decide_eq_false hn, Bool.false_and]
      rw [e] at q
      exact q _ (Same.refl _))
theorem ok_fits {f : Addr} {fd : FuncData} (k : Kn K mg "fits" s_fits ["condition", "columns"] f fd) (z : Z K mg)
    {g_clause_fits : Addr} {gd_clause_fits : FuncData} (c_clause_fits : Cal P w K mg base 6 "clause_fits" ["clause", "kinds"] (fun vs H Q _ => ∃ (a d : Addr) (cl : Cl) (cols : List Col), vs = [.ref a, .ref d] ∧ Tp H (.ref a) (clD cl) ∧ H d = some (.dK (kindsD cols)) ∧ ClG cl ∧ ∀ H', Same H H' → Q (.bl (clFits cols cl)) H') g_clause_fits gd_clause_fits) :
    Cal P w K mg base 7 "fits" ["condition", "columns"] (fun vs H Q _ => ∃ (c L : Addr) (cond : Cond) (cols : List Col), vs = [.ref c, .ref L] ∧ Tp H (.ref c) (condD cond) ∧ ColsAt H L cols ∧ (colNs cols).Nodup ∧ cols.length ≤ 100 ∧ (∀ a ∈ cond, ∀ cl ∈ a, ClG cl) ∧ cond.flatten.length ≤ 1000 ∧ ∀ H', Same H H' → Q (.bl (fitsM cols cond)) H') f fd := k.cal (by
  refine k.F.ok sc_fits (fun vs H Q E h => ?_) (fun cdv A outer s H vs Q E hr h => ?_)
  · obtain ⟨c, L, cond, cols, rfl, _⟩ := h; rfl
  · obtain ⟨c, L, cond, cols, rfl, hC, CA, nd, hl, hg, hf, q⟩ := h
    refine ⟨_, (pss_cons (ps_set (i := 2) sc_fits.nd rfl (Or.inr rfl) (pe_dc (own := [("column", 3)]) (g := gName 3) (tt := tYes) (by rfl) sc_fits.nd (pi_list (pv 1)) (blkOk_by (own := [("column", 3)]) (N := ["condition", "columns", "kinds", "column", "alternative", "clause"]) (sc := defScope s_fits) (by decide +kernel)) (fun _ _ _ _ _ => pg_name (i := 3) sc_fits.nd rfl (Or.inl rfl)) (fun _ _ _ _ _ => pts_nil) (fun _ _ _ _ _ => (pe_ix (r := rIxT K) ix_tup (pv 3) pe_int (fun _ _ => rfl))) (fun _ _ _ _ _ => (pe_ix (r := rIxT K) ix_tup (pv 3) pe_int (fun _ _ => rfl)))))
        (pss_one (ps_ret (pe_callB (cr_all rfl) (by rfl) z.all (by decide +kernel) (pa_cons (pe_lc2 (own := [("alternative", 4), ("clause", 5)]) (vs1 := [5]) (g := gName 4) (tt := tYes) (g1 := gName 5) (tt1 := tYes) (wi1 := iTup K (tVar 4))  (by rfl) sc_fits.nd (pi_tup (pv 0)) (blkOk_by (own := [("alternative", 4), ("clause", 5)]) (N := ["condition", "columns", "kinds", "column", "alternative", "clause"]) (sc := defScope s_fits) (by decide +kernel)) (by decide) (fun _ _ _ _ _ => pg_name (i := 4) sc_fits.nd rfl (Or.inl rfl)) (fun _ _ _ _ _ => pts_nil) (fun _ _ _ _ _ => (pi_tup (pv 4))) (fun _ _ _ _ _ => pg_name (i := 5) sc_fits.nd rfl (Or.inl rfl)) (fun _ _ _ _ _ => pts_nil) (fun _ _ _ _ _ => (pe_call c_clause_fits.G (hr.mono (by decide)) (by rfl) c_clause_fits.m c_clause_fits.kp c_clause_fits.b .nil pass0 (pa_cons (pv 5) (pa_cons (pv 2) pa_nil))))) pa_nil))))), ?_⟩
    obtain ⟨xs, h1, h2⟩ := id CA
    have hx : xs.length = cols.length := by rw [h2.length, List.length_map]
    refine ⟨_, rfl, L, rfl, ⟨_, SqL.of h1⟩, fun D hD => inner walk_list (fun i H' => H' D = some (.dK (kindsD (cols.take i))) ∧ Same H H') ⟨upd_same, same_new hD _⟩ (fun i H' _ hh => SqL.of (hh.2 _ _ h1)) ?_ ?_⟩
    · rintro i x H1 H1' hi ⟨hD1, s1⟩ ⟨rfl, ex⟩
      have hil : i < cols.length := by omega
      have ec : cols[i]? = some cols[i] := List.getElem?_eq_getElem hil
      obtain ⟨xs', a, k1, k2, k3⟩ := CA.get ec
      rw [h1] at k1
      cases k1
      rw [ex] at k2
      cases k2
      have k4 := s1 _ _ k3
      refine ⟨rfl, _, rfl, a, _, 0, _, rfl, rfl, SqT.of k4, atI_nat (j := 0) rfl, _, rfl, a, _, 1, _, rfl, rfl, SqT.of k4, atI_nat (j := 1) rfl, _, Sum.inr cols[i].n, rfl, hD1, (by unfold kindsD; rw [List.length_map, List.length_take]; exact small1000 (by omega)), ?_, same_upd hD _ s1⟩
      rw [upd_same, kinds_put nd ec]
    · rintro H1 ⟨hD1, s1⟩
      have et : cols.take xs.length = cols := List.take_of_length_le (by omega)
      rw [et] at hD1
      have hC1 := hC.mono (KeepT.of s1)
      obtain ⟨c', ys, e, hc, rc⟩ := t_at hC1
      cases e
      have hy : ys.length = cond.length := by rw [rc.length, List.length_map]
      refine ⟨_, rfl, c, rfl, ⟨_, SqT.of hc⟩, fun E hE => inner walk_tup (fun i H' => H' E = some (.lst (((cond.take i).flatten.map (clFits cols)).map V.bl)) ∧ Same H1 H') ⟨upd_same, same_new hE _⟩ (fun i H' _ hh => SqT.of (hh.2 _ _ hc)) ?_ ?_⟩
      · rintro i x H2 H2' hi ⟨hE2, s2⟩ ⟨rfl, ex⟩
        have hil : i < cond.length := by omega
        have ec : cond[i]? = some cond[i] := List.getElem?_eq_getElem hil
        have hm : cond[i] ∈ cond := List.getElem_mem hil
        obtain ⟨v, g1, g2⟩ := rc.get' (i := i) (d := altD cond[i]) (by rw [List.getElem?_map, ec]; rfl)
        rw [ex] at g1
        cases g1
        obtain ⟨al, ws, rfl, ha, ra⟩ := t_at g2
        have hw : ws.length = cond[i].length := by rw [ra.length, List.length_map]
        refine ⟨rfl, _, rfl, al, rfl, ⟨_, SqT.of (s2 _ _ ha)⟩, inner walk_tup (fun j H' => H' E = some (.lst ((((cond.take i).flatten ++ cond[i].take j).map (clFits cols)).map V.bl)) ∧ Same H1 H') ⟨by rw [List.take_zero, List.append_nil]; exact hE2, s2⟩ (fun j H' _ hh => SqT.of (hh.2 _ _ ha)) ?_ ?_⟩
        · rintro j y H3 H3' hj ⟨hE3, s3⟩ ⟨rfl, ey⟩
          have hjl : j < cond[i].length := by omega
          have ej : cond[i][j]? = some cond[i][j] := List.getElem?_eq_getElem hjl
          obtain ⟨v, g3, g4⟩ := ra.get' (i := j) (d := clD cond[i][j]) (by rw [List.getElem?_map, ej]; rfl)
          rw [ey] at g3
          cases g3
          obtain ⟨ca, rfl, _, _⟩ := cl_at g4
          have hED : ∀ o, H1 E = some o → False := fun o z => by rw [hE] at z; cases z
          refine ⟨rfl, _, rfl, _, rfl, ca, D, cond[i][j], cols, rfl, g4.mono (KeepT.of s3), s3 _ _ hD1, hg _ hm _ (List.getElem_mem hjl), fun H4 s4 => ?_⟩
          have fl : ((cond.take i).flatten ++ cond[i].take j).length ≤ 1000 := by
            have e1 : cond.flatten.length = ((cond.take i).flatten ++ cond[i] ++ (cond.drop (i + 1)).flatten).length := by
              conv => lhs; rw [← List.take_append_drop (i + 1) cond, List.flatten_append, flat_next ec]
            rw [List.length_append, List.length_append] at e1
            rw [List.length_append, List.length_take]
            omega
          refine ⟨_, s4 _ _ hE3, (by rw [List.length_map, List.length_map]; exact small1000 fl), ?_, same_upd hE _ (s3.trans s4)⟩
          rw [upd_same, flat_step ec ej, map2_snoc]
        · rintro H3 ⟨hE3, s3⟩
          rw [hw, List.take_length] at hE3
          exact ⟨by rw [flat_next ec]; exact hE3, s3⟩
      · rintro H2 ⟨hE2, s2⟩
        have et : cond.take ys.length = cond := List.take_of_length_le (by omega)
        rw [et] at hE2
        refine ⟨E, _, rfl, SqL.of hE2, ?_⟩
        have ee : (cond.flatten.map (clFits cols)).all id = fitsM cols cond := by rw [List.all_map]; exact all_flat cond (clFits cols)
        rw [ee]
        exact q _ (s1.trans s2))
theorem ok_is_referenced {f : Addr} {fd : FuncData} (k : Kn K mg "is_referenced" s_is_referenced ["schema", "table"] f fd) (z : Z K mg) :
    Cal P w K mg base 1 "is_referenced" ["schema", "table"] (spIsReferenced) f fd := k.cal (by
  refine k.F.ok sc_is_referenced (fun vs H Q E h => ?_) (fun cdv A outer s H vs Q E hr h => ?_)
  · obtain ⟨S, s, n, rfl, _⟩ := h; rfl
  · obtain ⟨S, s, n, rfl, hS, hD, nm, sm, l20, q⟩ := h
    have hu := hu_of hr
    refine ⟨_, (pss_one (ps_ret (pe_callB (cr_any rfl) (by rfl) z.any (by decide +kernel) (pa_cons (pe_lock (pe_lc2 (own := [("name", 2), ("_", 3), ("other", 4)]) (vs1 := [3, 4]) (g := gName 2) (tt := tYes) (g1 := (gTup K 2 (gCons (gName 3) (gCons (gName 4) (gNil))))) (tt1 := tYes) (wi1 := iList K (tDGet (tDGet (tVar 0) (tVar 2)) (tC (.str "references"))))  (by rfl) sc_is_referenced.nd (pi_keys (pv 0)) (blkOk_by (own := [("name", 2), ("_", 3), ("other", 4)]) (N := ["schema", "table", "name", "_", "other"]) (sc := defScope s_is_referenced) (by decide +kernel)) (by decide) (fun _ _ _ _ _ => pg_name (i := 2) sc_is_referenced.nd rfl (Or.inl rfl)) (fun _ _ _ _ _ => pts_nil) (fun _ _ _ _ _ => (pi_list (pe_dget hu (pe_dget hu (pv 0) (pv 2) (fun _ _ => rfl)) pe_str (fun _ _ => rfl)))) (fun _ _ _ _ _ => (pg_tup (by rfl) (pgs_cons (pg_name (i := 3) sc_is_referenced.nd rfl (Or.inl rfl)) (pgs_cons (pg_name (i := 4) sc_is_referenced.nd rfl (Or.inl rfl)) pgs_nil)))) (fun _ _ _ _ _ => pts_nil) (fun _ _ _ _ _ => (pe_cmpR op_eq (pv 4) (pv 1) (nomark _))))) pa_nil)))), ?_⟩
    have neS := desc_ne hS hD
    have lk : (schK s).length = s.length := by unfold schK; rw [List.length_map]
    refine ⟨S, _, hS, True.intro, fun od => ?_⟩
    refine ⟨_, rfl, S, od, rfl, .inl ⟨schK s, upd_same, fun E hE => inner walk_keys (fun i H' => ∃ bs : List Bool, H' E = some (.lst (bs.map V.bl)) ∧ bs.length ≤ 40 * i ∧ bs.any id = refdM ((s.take i).map (·.2)) n ∧ Same (upd H S (.frz od (.dK (schK s)))) H') ⟨[], upd_same, Nat.zero_le _, rfl, same_new hE _⟩ (fun i H' _ ⟨_, _, _, _, e⟩ => e _ _ upd_same) ?_ ?_⟩⟩
    · rintro i x H1 H1' hi ⟨bs, hE1, lb, ab, s1⟩ ⟨rfl, key, wv, ek, rfl⟩
      obtain ⟨p, ep, rfl, rfl⟩ := sch_at ek
      have hp : p ∈ s := List.mem_of_getElem? ep
      have D1 := (hD p hp).lock (o := .frz od (.dK (schK s))) hS (neS p hp)
      obtain ⟨xr, r1, r2⟩ := D1.rf
      have lr : xr.length = p.2.rf.length := by rw [r2.length, List.length_map]
      have h40 := (sm p hp).rf
      have hil : i < s.length := (List.getElem?_eq_some_iff.mp ep).1
      refine ⟨rfl, _, rfl, _, rfl, S, _, rfl, sch_getF (s1 _ _ upd_same) nm hp, p.1.d, _, rfl, (D1.frame (KeepT.of s1) (fun o => s1 _ _) (fun b _ o => s1 _ _)).gr, p.1.r, rfl, ⟨_, SqL.of (s1 _ _ r1)⟩, inner walk_list (fun j H' => H' E = some (.lst ((bs ++ (p.2.rf.take j).map fun r => decide (r.2 = n)).map V.bl)) ∧ Same (upd H S (.frz od (.dK (schK s)))) H') ⟨by rw [List.take_zero, List.map_nil, List.append_nil]; exact hE1, s1⟩ (fun i H' _ hh => SqL.of (hh.2 _ _ r1)) ?_ ?_⟩
      · rintro j y H2 H2' hj ⟨hE2, s2⟩ ⟨rfl, ey⟩
        have hjl : j < p.2.rf.length := by omega
        have ec : p.2.rf[j]? = some p.2.rf[j] := List.getElem?_eq_getElem hjl
        obtain ⟨v, g1, g2⟩ := r2.get' (i := j) (d := rfD p.2.rf[j]) (by rw [List.getElem?_map, ec]; rfl)
        rw [ey] at g1
        cases g1
        obtain ⟨ra, rfl, hra⟩ := rf_at g2
        refine ⟨ra, _, rfl, SqT.of (s2 _ _ hra), rfl, _, _, rfl, _, _, rfl, rfl, rfl, _, rfl, _, rfl, rfl, _, hE2, (by rw [List.length_map, List.length_append, List.length_map, List.length_take]; exact small1000 (by omega)), ?_, same_upd hE _ s2⟩
        rw [upd_same, take_map (fun r : Str × Str => decide (r.2 = n)) ec, ← List.append_assoc, List.map_append (f := V.bl) (l₁ := bs ++ List.map (fun r : Str × Str => decide (r.2 = n)) (List.take j p.2.rf)), D_str_eq]; rfl
      · rintro H2 ⟨hE2, s2⟩
        rw [lr, List.take_length] at hE2
        refine ⟨_, hE2, by rw [List.length_append, List.length_map]; omega, ?_, s2⟩
        rw [List.any_append, ab, List.any_map]
        unfold refdM
        rw [take_map (fun p : Ads × Tab => p.2) ep, List.any_append]
        simp
    · rintro H1 ⟨bs, hE1, lb, ab, s1⟩
      rw [lk, List.take_length] at ab
      rw [lk] at lb
      refine ⟨s1 _ _ upd_same, E, _, rfl, SqL.of (by rw [upd_ne (ne_of_none upd_same hE).symm]; exact hE1), ?_⟩
      rw [ab]
      refine q _ fun b o h => ?_
      by_cases z : b = S
      · subst z; rw [hS] at h; cases h; exact upd_same
      · rw [upd_ne z]
        exact s1 _ _ (by rw [upd_ne z]; exact h))
theorem ok_full_code {f : Addr} {fd : FuncData} (k : Kn K mg "full_code" s_full_code ["schema", "table", "part"] f fd) (z : Z K mg)
    {g_is_referenced : Addr} {gd_is_referenced : FuncData} (c_is_referenced : Cal P w K mg base 1 "is_referenced" ["schema", "table"] (spIsReferenced) g_is_referenced gd_is_referenced) :
    Cal P w K mg base 2 "full_code" ["schema", "table", "part"] (spFull) f fd := k.cal (by
  obtain ⟨t_MOST_LIMITS, k_MOST_LIMITS⟩ := z.c_MOST_LIMITS
  refine k.F.ok sc_full_code (fun vs H Q E h => ?_) (fun cdv A outer s H vs Q E hr h => ?_)
  · obtain ⟨S, s, p, pt, rfl, _⟩ := h; rfl
  · obtain ⟨S, s, p, pt, rfl, B, hp, q⟩ := h
    have hu := hu_of hr
    refine ⟨_, (pss_cons (ps_if (pt_val (pe_call c_is_referenced.G (hr.mono (by decide)) (by rfl) c_is_referenced.m c_is_referenced.kp c_is_referenced.b .nil pass0 (pa_cons (pv 0) (pa_cons (pv 1) pa_nil)))) (pss_one (ps_ret pe_str)) pss_nil)
        (pss_cons (ps_if (pt_cmpR op_ge (pe_callB call_len_seq (by rfl) z.len (by decide +kernel) (pa_cons (pe_dget hu (pe_dget hu (pv 0) (pv 1) (fun _ _ => rfl)) (pv 2) (fun _ _ => rfl)) pa_nil)) (pe_glob (v := .int (4)) rfl k_MOST_LIMITS ⟨_, rfl⟩) (nomark _)) (pss_one (ps_ret pe_str)) pss_nil)
        (pss_one (ps_ret pe_str)))), ?_⟩
    have sm : ∀ p ∈ s, TabSm p.2 := fun p hp => (B.ok p hp).sm
    have l6 := B.l6
    refine ⟨_, rfl, _, rfl, S, s, p.2.n, rfl, B.sk, B.ds, B.nm, sm, by omega, fun H1 s1 => ⟨_, rfl, ?_⟩⟩
    unfold fullM at q
    have B1 := B.mono s1
    obtain ⟨g1, xs, g2, g3⟩ := (B1.ds p hp).part pt
    refine ite2 (fun h1 => ?_) (fun h1 => ?_)
    · have h1' : refdM (tbs s) p.2.n = true := h1
      rw [if_pos h1'] at q
      exact q H1 s1
    · have h1' : ¬ refdM (tbs s) p.2.n = true := h1
      rw [if_neg h1'] at q
      refine ⟨_, rfl, _, rfl, S, _, rfl, sch_getK B1.sk B1.nm hp, _, rfl, p.1.d, _, rfl, g1, _, xs, rfl, .inl (SqL.of g2), _, _, rfl, rfl, _, rfl, ?_⟩
      have el : xs.length = ptL p.2 pt := by rw [g3.length, ptD_len]
      rw [el]
      refine ifD (fun h2 => ?_) (fun h2 => ?_)
      · rw [if_pos (by omega)] at q
        exact q H1 s1
      · rw [if_neg (by omega)] at q
        exact q H1 s1)
theorem ok_add_check_code {f : Addr} {fd : FuncData} (k : Kn K mg "add_check_code" s_add_check_code ["schema", "step"] f fd) (z : Z K mg)
    {g_fits : Addr} {gd_fits : FuncData} (c_fits : Cal P w K mg base 7 "fits" ["condition", "columns"] (fun vs H Q _ => ∃ (c L : Addr) (cond : Cond) (cols : List Col), vs = [.ref c, .ref L] ∧ Tp H (.ref c) (condD cond) ∧ ColsAt H L cols ∧ (colNs cols).Nodup ∧ cols.length ≤ 100 ∧ (∀ a ∈ cond, ∀ cl ∈ a, ClG cl) ∧ cond.flatten.length ≤ 1000 ∧ ∀ H', Same H H' → Q (.bl (fitsM cols cond)) H') g_fits gd_fits)
    {g_full_code : Addr} {gd_full_code : FuncData} (c_full_code : Cal P w K mg base 2 "full_code" ["schema", "table", "part"] (spFull) g_full_code gd_full_code) :
    Cal P w K mg base 8 "add_check_code" ["schema", "step"] (spCode (fun l => ∃ t c, l = .addC t c)) f fd := k.cal (by
  refine k.F.ok sc_add_check_code (fun vs H Q E h => ?_) (fun cdv A outer s H vs Q E hr h => ?_)
  · obtain ⟨S, s, st, l, rfl, _⟩ := h; rfl
  · obtain ⟨S, s, st, l, rfl, B, hT, lo, ⟨t, cd, rfl⟩, q⟩ := h
    have hu := hu_of hr
    refine ⟨_, (pss_cons (ps_asg (pv 1) (pg_tup (by rfl) (pgs_cons (pg_name (i := 2) sc_add_check_code.nd rfl (Or.inl rfl)) (pgs_cons (pg_name (i := 3) sc_add_check_code.nd rfl (Or.inl rfl)) (pgs_cons (pg_name (i := 4) sc_add_check_code.nd rfl (Or.inl rfl)) pgs_nil)))))
        (pss_cons (ps_if (pt_cmp (pc_dnotin hu (pv 3) (pv 0))) (pss_one (ps_ret pe_str)) pss_nil)
        (pss_cons (ps_if (pt_not (pt_val (pe_call c_fits.G (hr.mono (by decide)) (by rfl) c_fits.m c_fits.kp c_fits.b .nil pass0 (pa_cons (pv 4) (pa_cons (pe_dget hu (pe_dget hu (pv 0) (pv 3) (fun _ _ => rfl)) pe_str (fun _ _ => rfl)) pa_nil))))) (pss_one (ps_ret pe_str)) pss_nil)
        (pss_one (ps_ret (pe_call c_full_code.G (hr.mono (by decide)) (by rfl) c_full_code.m c_full_code.kp c_full_code.b .nil pass0 (pa_cons (pv 0) (pa_cons (pv 3) (pa_cons pe_str pa_nil))))))))), ?_⟩
    obtain ⟨ys0, hst, rst⟩ := ls_at hT
    simp only [lsT, lsK] at hst
    obtain ⟨v0, rfl, a3⟩ := tp_one rst
    obtain ⟨ca, ws, rfl, hca, rca⟩ := t_at a3
    simp only [codeL, lsT] at q
    have sm : ∀ p ∈ s, TabSm p.2 := fun p hp => (B.ok p hp).sm
    have l6 := B.l6
    refine ⟨_, rfl, st, _, rfl, SqT.of hst, rfl, _, _, rfl, _, _, rfl, _, _, rfl, rfl, ?_⟩
    refine ⟨_, rfl, _, rfl, S, _, rfl, B.in', _, rfl, ?_⟩
    rw [sch_some]
    rcases tab_cases B.nm t with ⟨h1, h2⟩ | ⟨p, hp, rfl, h2⟩
    · rw [h2] at q
      rw [decide_eq_false h1]
      exact q H (Same.refl _)
    · rw [h2] at q
      have hin : p.2.n ∈ schN s := List.mem_map.mpr ⟨p, hp, rfl⟩
      rw [decide_eq_true hin]
      have D := B.ds p hp
      have v := B.ok p hp
      have l8 := v.l8
      obtain ⟨o1, o2, o3⟩ := lo.1
      refine ⟨_, rfl, _, rfl, _, rfl, S, _, rfl, sch_getK B.sk B.nm hp, p.1.d, _, rfl, D.gc, ca, p.1.c, cd, p.2.cols, rfl, a3, D.co, v.co.nd, by omega, fun a ha cl hcl => (o3 a ha cl hcl).2.2, cond_flat (by omega) (fun a ha => by have := o2 a ha; omega), fun H1 s1 => ⟨_, rfl, ?_⟩⟩
      simp only [codeT] at q
      cases hf : fitsM p.2.cols cd with
      | false =>
        rw [hf] at q
        exact q H1 s1
      | true =>
        rw [hf] at q
        exact ⟨_, rfl, _, rfl, S, s, p, .c, rfl, B.mono s1, hp, fun H2 s2 => q H2 (s1.trans s2)⟩)
theorem ok_column_names {f : Addr} {fd : FuncData} (k : Kn K mg "column_names" s_column_names ["description"] f fd) (z : Z K mg) :
    Cal P w K mg base 1 "column_names" ["description"] (spColumnNames) f fd := k.cal (by
  refine k.F.ok sc_column_names (fun vs H Q E h => ?_) (fun cdv A outer s H vs Q E hr h => ?_)
  · obtain ⟨d, L, cols, rfl, _⟩ := h; rfl
  · obtain ⟨d, L, cols, rfl, G, C, hl, q⟩ := h
    have hu := hu_of hr
    refine ⟨_, (pss_one (ps_ret (pe_lc (own := [("column", 1)]) (g := gName 1) (tt := tYes) (by rfl) sc_column_names.nd (pi_list (pe_dget hu (pv 0) pe_str (fun _ _ => rfl))) (blkOk_by (own := [("column", 1)]) (N := ["description", "column"]) (sc := defScope s_column_names) (by decide +kernel)) (fun _ _ _ _ _ => pg_name (i := 1) sc_column_names.nd rfl (Or.inl rfl)) (fun _ _ _ _ _ => pts_nil) (fun _ _ _ _ _ => (pe_ix (r := rIxT K) ix_tup (pv 1) pe_int (fun _ _ => rfl)))))), ?_⟩
    obtain ⟨xs, h1, h2⟩ := id C
    have hx : xs.length = cols.length := by rw [h2.length, List.length_map]
    refine ⟨_, rfl, d, _, rfl, G, L, rfl, ⟨_, SqL.of h1⟩, fun D hD => lc_list (K := K) (a := L) (xs := xs) (fun i H' => H' D = some (.lst (((colNs cols).take i).map V.str)) ∧ Same H H') ⟨upd_same, same_new hD _⟩ (fun i H' _ hh => SqL.of (hh.2 _ _ h1)) ?_ ?_⟩
    · rintro i x H1 hi ⟨hD1, s1⟩
      have hil : i < cols.length := by rw [← hx]; exact (List.getElem?_eq_some_iff.mp hi).1
      obtain ⟨xs', a, k1, k2, k3⟩ := C.get (List.getElem?_eq_getElem hil)
      rw [h1] at k1
      cases k1
      rw [hi] at k2
      cases k2
      refine ⟨rfl, _, rfl, a, _, 0, _, rfl, rfl, SqT.of (s1 _ _ k3), atI_nat (j := 0) rfl, _, hD1, (by rw [List.length_map, List.length_take]; exact small1000 (by omega)), ?_, same_upd hD _ s1⟩
      rw [upd_same, List.take_add_one]
      have : (colNs cols)[i]? = some cols[i].n := by unfold colNs; rw [List.getElem?_map, List.getElem?_eq_getElem hil]; rfl
      rw [this]
      simp
    · rintro H1 ⟨hD1, s1⟩
      have : (colNs cols).take xs.length = colNs cols := List.take_of_length_le (by unfold colNs; rw [List.length_map]; omega)
      rw [this] at hD1
      exact q D H1 hD s1 hD1)
theorem ok_lacks {f : Addr} {fd : FuncData} (k : Kn K mg "lacks" s_lacks ["schema", "table", "columns"] f fd) (z : Z K mg)
    {g_column_names : Addr} {gd_column_names : FuncData} (c_column_names : Cal P w K mg base 1 "column_names" ["description"] (spColumnNames) g_column_names gd_column_names) :
    Cal P w K mg base 2 "lacks" ["schema", "table", "columns"] (spLacks) f fd := k.cal (by
  refine k.F.ok sc_lacks (fun vs H Q E h => ?_) (fun cdv A outer s H vs Q E hr h => ?_)
  · obtain ⟨S, s, t, n, L, rfl, _⟩ := h; rfl
  · obtain ⟨S, s, t, n, L, rfl, B, hL, q⟩ := h
    have hu := hu_of hr
    refine ⟨_, (pss_cons (ps_if (pt_cmp (pc_dnotin hu (pv 1) (pv 0))) (pss_one (ps_ret pe_bl)) pss_nil)
        (pss_cons (ps_set (i := 3) sc_lacks.nd rfl (Or.inr rfl) (pe_call c_column_names.G (hr.mono (by decide)) (by rfl) c_column_names.m c_column_names.kp c_column_names.b .nil pass0 (pa_cons (pe_dget hu (pv 0) (pv 1) (fun _ _ => rfl)) pa_nil)))
        (pss_one (ps_ret (pe_not (pe_callB (cr_all rfl) (by rfl) z.all (by decide +kernel) (pa_cons (pe_lc (own := [("column", 4)]) (g := gName 4) (tt := tYes) (by rfl) sc_lacks.nd (pi_list (pv 2)) (blkOk_by (own := [("column", 4)]) (N := ["schema", "table", "columns", "names", "column"]) (sc := defScope s_lacks) (by decide +kernel)) (fun _ _ _ _ _ => pg_name (i := 4) sc_lacks.nd rfl (Or.inl rfl)) (fun _ _ _ _ _ => pts_nil) (fun _ _ _ _ _ => (pe_cmpR (r := rIn K false) op_in_seq (pv 4) (pv 3) (by rfl)))) pa_nil))))))), ?_⟩
    refine ⟨_, rfl, _, rfl, S, _, rfl, B.in', _, rfl, ?_⟩
    rw [sch_some]
    rcases tab_cases B.nm t with ⟨h1, h2⟩ | ⟨p, hp, rfl, h2⟩
    · rw [h2] at q
      rw [decide_eq_false h1]
      exact q H (Same.refl _)
    · rw [h2] at q
      have hin : p.2.n ∈ schN s := List.mem_map.mpr ⟨p, hp, rfl⟩
      rw [decide_eq_true hin]
      have D := B.ds p hp
      have l8 := (B.ok p hp).l8
      refine ⟨_, rfl, _, rfl, S, _, rfl, sch_getK B.sk B.nm hp, p.1.d, p.1.c, p.2.cols, rfl, D.gc, D.co, by omega, fun N H1 hN s1 hN1 => ?_⟩
      refine ⟨_, rfl, L, rfl, ⟨_, SqL.of (s1 _ _ hL)⟩, fun E hE => inner walk_list (fun i H' => H' E = some (.lst (([n].take i).map fun x => V.bl (decide (x ∈ colNs p.2.cols)))) ∧ Same H1 H') ⟨upd_same, same_new hE _⟩ (fun i H' _ hh => SqL.of (hh.2 _ _ (s1 _ _ hL))) ?_ ?_⟩
      · rintro i x H2 H2' hi ⟨hE2, s2⟩ ⟨rfl, ex⟩
        have hi0 : i = 0 := by have : i < 1 := hi; omega
        subst hi0
        cases ex
        refine ⟨rfl, _, rfl, _, rfl, N, _, rfl, .inl (SqL.of (s2 _ _ hN1)), rfl, flat_strs _, _, hE2, (by show 0 < sizeLine; decide), ?_, same_upd hE _ s2⟩
        rw [upd_same]
        show some (HO.lst ([] ++ [V.bl (inV (.str n) ((colNs p.2.cols).map V.str))])) = _
        rw [inV_str]; rfl
      · rintro H2 ⟨hE2, s2⟩
        refine ⟨E, [decide (n ∈ colNs p.2.cols)], rfl, SqL.of hE2, _, rfl, ?_⟩
        simp only [List.all_cons, List.all_nil, Bool.and_true, id]
        exact q H2 (s1.trans s2))
theorem ok_key_name {f : Addr} {fd : FuncData} (k : Kn K mg "key_name" s_key_name ["description"] f fd) (z : Z K mg) :
    Cal P w K mg base 1 "key_name" ["description"] (spKeyName) f fd := k.cal (by
  refine k.F.ok sc_key_name (fun vs H Q E h => ?_) (fun cdv A outer s H vs Q E hr h => ?_)
  · obtain ⟨a, t, rfl, _⟩ := h; rfl
  · obtain ⟨a, t, rfl, D, l0, q⟩ := h
    have hu := hu_of hr
    refine ⟨_, (pss_one (ps_ret (pe_ix ix_tup (pe_ix ix_list (pe_dget hu (pv 0) pe_str (fun _ _ => rfl)) pe_int (fun _ _ => rfl)) pe_int (fun _ _ => rfl)))), ?_⟩
    obtain ⟨c, hc, e1, e2, _⟩ := key_at l0
    obtain ⟨xs, ca, k1, k2, k3⟩ := D.co.get hc
    refine ⟨_, rfl, a.d, _, rfl, D.gc, a.c, _, 0, _, rfl, rfl, SqL.of k1, atI_nat (j := 0) k2, ca, _, 0, _, rfl, rfl, SqT.of k3, atI_nat (j := 0) rfl, ?_⟩
    rw [e1]; exact q)
theorem ok_add_unique_code {f : Addr} {fd : FuncData} (k : Kn K mg "add_unique_code" s_add_unique_code ["schema", "step"] f fd) (z : Z K mg)
    {g_lacks : Addr} {gd_lacks : FuncData} (c_lacks : Cal P w K mg base 2 "lacks" ["schema", "table", "columns"] (spLacks) g_lacks gd_lacks)
    {g_key_name : Addr} {gd_key_name : FuncData} (c_key_name : Cal P w K mg base 1 "key_name" ["description"] (spKeyName) g_key_name gd_key_name)
    {g_full_code : Addr} {gd_full_code : FuncData} (c_full_code : Cal P w K mg base 2 "full_code" ["schema", "table", "part"] (spFull) g_full_code gd_full_code) :
    Cal P w K mg base 3 "add_unique_code" ["schema", "step"] (spCode (fun l => ∃ t n, l = .addU t n)) f fd := k.cal (by
  refine k.F.ok sc_add_unique_code (fun vs H Q E h => ?_) (fun cdv A outer s H vs Q E hr h => ?_)
  · obtain ⟨S, s, st, l, rfl, _⟩ := h; rfl
  · obtain ⟨S, s, st, l, rfl, B, hT, lo, ⟨t, n, rfl⟩, q⟩ := h
    have hu := hu_of hr
    refine ⟨_, (pss_cons (ps_asg (pv 1) (pg_tup (by rfl) (pgs_cons (pg_name (i := 2) sc_add_unique_code.nd rfl (Or.inl rfl)) (pgs_cons (pg_name (i := 3) sc_add_unique_code.nd rfl (Or.inl rfl)) (pgs_cons (pg_name (i := 4) sc_add_unique_code.nd rfl (Or.inl rfl)) pgs_nil)))))
        (pss_cons (ps_if (pt_val (pe_call c_lacks.G (hr.mono (by decide)) (by rfl) c_lacks.m c_lacks.kp c_lacks.b .nil pass0 (pa_cons (pv 0) (pa_cons (pv 3) (pa_cons (pe_lst (pa_cons (pv 4) pa_nil)) pa_nil))))) (pss_one (ps_ret pe_str)) pss_nil)
        (pss_cons (ps_if (pt_cmpR op_eq (pv 4) (pe_call c_key_name.G (hr.mono (by decide)) (by rfl) c_key_name.m c_key_name.kp c_key_name.b .nil pass0 (pa_cons (pe_dget hu (pv 0) (pv 3) (fun _ _ => rfl)) pa_nil)) (nomark _)) (pss_one (ps_ret pe_str)) pss_nil)
        (pss_cons (ps_if (pt_cmpR op_in_seq (pv 4) (pe_dget hu (pe_dget hu (pv 0) (pv 3) (fun _ _ => rfl)) pe_str (fun _ _ => rfl)) (by rfl)) (pss_one (ps_ret pe_str)) pss_nil)
        (pss_one (ps_ret (pe_call c_full_code.G (hr.mono (by decide)) (by rfl) c_full_code.m c_full_code.kp c_full_code.b .nil pass0 (pa_cons (pv 0) (pa_cons (pv 3) (pa_cons pe_str pa_nil)))))))))), ?_⟩
    obtain ⟨ys0, hst, rst⟩ := ls_at hT
    simp only [lsT, lsK] at hst
    obtain ⟨v0, rfl, a3⟩ := tp_one rst
    cases a3.s1
    simp only [codeL, lsT] at q
    refine ⟨_, rfl, st, _, rfl, SqT.of hst, rfl, _, _, rfl, _, _, rfl, _, _, rfl, rfl, ?_⟩
    refine ⟨_, rfl, _, rfl, _, rfl, (by show 1 ≤ sizeLine; decide), fun L hL => ?_⟩
    have e1 := same_new hL (.lst [.str n])
    refine ⟨S, s, t, n, L, rfl, B.mono e1, upd_same, fun H1 s1 => ⟨_, rfl, ?_⟩⟩
    have S1 := e1.trans s1
    have B1 := B.mono S1
    rcases tab_cases B.nm t with ⟨h1, h2⟩ | ⟨p, hp, rfl, h2⟩
    · rw [h2] at q
      rw [h2]
      exact q H1 S1
    · rw [h2] at q
      rw [h2]
      simp only [codeT] at q
      have D := B1.ds p hp
      have v := B1.ok p hp
      by_cases hn : n ∈ colNs p.2.cols
      · rw [if_pos hn] at q
        simp only [decide_eq_true hn]
        refine ⟨_, rfl, _, rfl, _, rfl, S, _, rfl, sch_getK B1.sk B1.nm hp, p.1, p.2, rfl, D, v.l0, rfl, _, rfl, ?_⟩
        refine ifD (fun hk => ?_) (fun hk => ?_)
        · rw [if_pos (V.str.inj hk)] at q
          exact q H1 S1
        · rw [if_neg (fun z => hk (congrArg V.str z))] at q
          refine ⟨_, rfl, _, rfl, _, rfl, S, _, rfl, sch_getK B1.sk B1.nm hp, p.1.d, _, rfl, D.gu, p.1.u, _, rfl, .inl (SqL.of D.un), rfl, flat_strs _, _, rfl, ?_⟩
          have em : inV (.str n) (p.2.un.map V.str) = memB p.2.un n := by
            rw [inV_str, Bool.eq_iff_iff, memB_iff, decide_eq_true_iff]
          show if inV (.str n) (p.2.un.map V.str) = true then _ else _
          rw [em]
          refine ite2 (fun hm => ?_) (fun hm => ?_)
          · rw [if_pos hm] at q
            exact q H1 S1
          · rw [if_neg hm] at q
            exact ⟨_, rfl, _, rfl, S, s, p, .u, rfl, B1, hp, fun H2 s2 => q H2 (S1.trans s2)⟩
      · rw [if_neg hn] at q
        simp only [decide_eq_false hn]
        exact q H1 S1)
theorem ok_column_called {f : Addr} {fd : FuncData} (k : Kn K mg "column_called" s_column_called ["description", "name"] f fd) (z : Z K mg)
    {g_column_names : Addr} {gd_column_names : FuncData} (c_column_names : Cal P w K mg base 1 "column_names" ["description"] (spColumnNames) g_column_names gd_column_names) :
    Cal P w K mg base 2 "column_called" ["description", "name"] (spColCalled) f fd := k.cal (by
  refine k.F.ok sc_column_called (fun vs H Q E h => ?_) (fun cdv A outer s H vs Q E hr h => ?_)
  · obtain ⟨a, t, n, rfl, _⟩ := h; rfl
  · obtain ⟨a, t, n, rfl, D, l40, hn, q⟩ := h
    have hu := hu_of hr
    refine ⟨_, (pss_one (ps_ret (pe_ix ix_list (pe_dget hu (pv 0) pe_str (fun _ _ => rfl)) (pe_bm PySem.F.plainAttrs_list PySem.F.slot_list_index PySem.F.type_list_index mt_index (pe_call c_column_names.G (hr.mono (by decide)) (by rfl) c_column_names.m c_column_names.kp c_column_names.b .nil pass0 (pa_cons (pv 0) pa_nil)) (pa_cons (pv 1) pa_nil)) (fun _ _ => rfl)))), ?_⟩
    obtain ⟨c, hc, _⟩ := idx_get hn
    obtain ⟨z, i1, i2, i3, i4⟩ := ix_names hn
    obtain ⟨xs, ca, k1, k2, k3⟩ := D.co.get hc
    refine ⟨_, rfl, a.d, _, rfl, D.gc, ?_⟩
    refine ⟨_, rfl, a.d, a.c, t.cols, rfl, D.gc, D.co, by omega, fun N H1 hN s1 hN1 => ?_⟩
    exact ⟨.inl ⟨rfl, _, SqL.of hN1⟩, _, rfl, N, _, _, (colNs t.cols).idxOf n, z, rfl, rfl, SqL.of hN1, rfl, i1, i2, i3, i4, a.c, _, _, _, rfl, rfl, SqL.of (s1 _ _ k1), at_ofN rfl k2, q ca c H1 hc (s1 _ _ k3) s1⟩)
theorem ok_key_kind {f : Addr} {fd : FuncData} (k : Kn K mg "key_kind" s_key_kind ["description"] f fd) (z : Z K mg) :
    Cal P w K mg base 1 "key_kind" ["description"] (spKeyKind) f fd := k.cal (by
  refine k.F.ok sc_key_kind (fun vs H Q E h => ?_) (fun cdv A outer s H vs Q E hr h => ?_)
  · obtain ⟨a, t, rfl, _⟩ := h; rfl
  · obtain ⟨a, t, rfl, D, l0, q⟩ := h
    have hu := hu_of hr
    refine ⟨_, (pss_one (ps_ret (pe_ix ix_tup (pe_ix ix_list (pe_dget hu (pv 0) pe_str (fun _ _ => rfl)) pe_int (fun _ _ => rfl)) pe_int (fun _ _ => rfl)))), ?_⟩
    obtain ⟨c, hc, e1, e2, _⟩ := key_at l0
    obtain ⟨xs, ca, k1, k2, k3⟩ := D.co.get hc
    refine ⟨_, rfl, a.d, _, rfl, D.gc, a.c, _, 0, _, rfl, rfl, SqL.of k1, atI_nat (j := 0) k2, ca, _, 1, _, rfl, rfl, SqT.of k3, atI_nat (j := 1) rfl, ?_⟩
    rw [e2]; exact q)
theorem ok_add_reference_code {f : Addr} {fd : FuncData} (k : Kn K mg "add_reference_code" s_add_reference_code ["schema", "step"] f fd) (z : Z K mg)
    {g_lacks : Addr} {gd_lacks : FuncData} (c_lacks : Cal P w K mg base 2 "lacks" ["schema", "table", "columns"] (spLacks) g_lacks gd_lacks)
    {g_key_name : Addr} {gd_key_name : FuncData} (c_key_name : Cal P w K mg base 1 "key_name" ["description"] (spKeyName) g_key_name gd_key_name)
    {g_column_called : Addr} {gd_column_called : FuncData} (c_column_called : Cal P w K mg base 2 "column_called" ["description", "name"] (spColCalled) g_column_called gd_column_called)
    {g_key_kind : Addr} {gd_key_kind : FuncData} (c_key_kind : Cal P w K mg base 1 "key_kind" ["description"] (spKeyKind) g_key_kind gd_key_kind)
    {g_full_code : Addr} {gd_full_code : FuncData} (c_full_code : Cal P w K mg base 2 "full_code" ["schema", "table", "part"] (spFull) g_full_code gd_full_code) :
    Cal P w K mg base 3 "add_reference_code" ["schema", "step"] (spCode (fun l => ∃ t n o, l = .addR t n o)) f fd := k.cal (by
  refine k.F.ok sc_add_reference_code (fun vs H Q E h => ?_) (fun cdv A outer s H vs Q E hr h => ?_)
  · obtain ⟨S, s, st, l, rfl, _⟩ := h; rfl
  · obtain ⟨S, s, st, l, rfl, B, hT, lo, ⟨t, n, o, rfl⟩, q⟩ := h
    have hu := hu_of hr
    refine ⟨_, (pss_cons (ps_asg (pv 1) (pg_tup (by rfl) (pgs_cons (pg_name (i := 2) sc_add_reference_code.nd rfl (Or.inl rfl)) (pgs_cons (pg_name (i := 3) sc_add_reference_code.nd rfl (Or.inl rfl)) (pgs_cons (pg_name (i := 4) sc_add_reference_code.nd rfl (Or.inl rfl)) (pgs_cons (pg_name (i := 5) sc_add_reference_code.nd rfl (Or.inl rfl)) pgs_nil))))))
        (pss_cons (ps_if (PW.pt (pw_or (pt_val (pe_call c_lacks.G (hr.mono (by decide)) (by rfl) c_lacks.m c_lacks.kp c_lacks.b .nil pass0 (pa_cons (pv 0) (pa_cons (pv 3) (pa_cons (pe_lst (pa_cons (pv 4) pa_nil)) pa_nil))))) (pw_or1 (pt_cmp (pc_dnotin hu (pv 5) (pv 0)))))) (pss_one (ps_ret pe_str)) pss_nil)
        (pss_cons (ps_if (pt_cmpR op_eq (pv 4) (pe_call c_key_name.G (hr.mono (by decide)) (by rfl) c_key_name.m c_key_name.kp c_key_name.b .nil pass0 (pa_cons (pe_dget hu (pv 0) (pv 3) (fun _ _ => rfl)) pa_nil)) (nomark _)) (pss_one (ps_ret pe_str)) pss_nil)
        (pss_cons (ps_if (pt_cmpR op_eq (pv 3) (pv 5) (nomark _)) (pss_one (ps_ret pe_str)) pss_nil)
        (pss_cons (ps_if (pt_cmpR op_ne (pe_ix ix_tup (pe_call c_column_called.G (hr.mono (by decide)) (by rfl) c_column_called.m c_column_called.kp c_column_called.b .nil pass0 (pa_cons (pe_dget hu (pv 0) (pv 3) (fun _ _ => rfl)) (pa_cons (pv 4) pa_nil))) pe_int (fun _ _ => rfl)) (pe_call c_key_kind.G (hr.mono (by decide)) (by rfl) c_key_kind.m c_key_kind.kp c_key_kind.b .nil pass0 (pa_cons (pe_dget hu (pv 0) (pv 5) (fun _ _ => rfl)) pa_nil)) (nomark _)) (pss_one (ps_ret pe_str)) pss_nil)
        (pss_cons (ps_if (pt_cmpR (op_inD (units_of hr)) (pe_tup (pa_cons (pv 4) (pa_cons (pv 5) pa_nil))) (pe_dget hu (pe_dget hu (pv 0) (pv 3) (fun _ _ => rfl)) pe_str (fun _ _ => rfl)) (by rfl)) (pss_one (ps_ret pe_str)) pss_nil)
        (pss_one (ps_ret (pe_call c_full_code.G (hr.mono (by decide)) (by rfl) c_full_code.m c_full_code.kp c_full_code.b .nil pass0 (pa_cons (pv 0) (pa_cons (pv 3) (pa_cons pe_str pa_nil)))))))))))), ?_⟩
    obtain ⟨ys0, hst, rst⟩ := ls_at hT
    simp only [lsT, lsK] at hst
    cases tp_two rst
    simp only [codeL, lsT] at q
    refine ⟨_, rfl, st, _, rfl, SqT.of hst, rfl, _, _, rfl, _, _, rfl, _, _, rfl, _, _, rfl, rfl, ?_⟩
    refine ⟨_, rfl, _, rfl, _, rfl, (by show 1 ≤ sizeLine; decide), fun L hL => ?_⟩
    have e1 := same_new hL (.lst [.str n])
    refine ⟨S, s, t, n, L, rfl, B.mono e1, upd_same, fun H1 s1 => ⟨_, rfl, ?_⟩⟩
    have S1 := e1.trans s1
    have B1 := B.mono S1
    rcases tab_cases B.nm t with ⟨h1, h2⟩ | ⟨p, hp, rfl, h2⟩
    · rw [h2] at q
      rw [h2]
      exact q H1 S1
    · rw [h2] at q
      rw [h2]
      simp only [codeT] at q
      have D := B1.ds p hp
      have v := B1.ok p hp
      by_cases hn : n ∈ colNs p.2.cols
      · rw [if_pos hn] at q
        simp only [decide_eq_true hn]
        refine ⟨_, rfl, _, rfl, S, _, rfl, B1.in', _, rfl, ?_⟩
        rw [sch_some]
        rcases tab_cases B.nm o with ⟨h3, h4⟩ | ⟨p2, hp2, rfl, h4⟩
        · rw [h4] at q
          rw [decide_eq_false h3]
          exact q H1 S1
        · rw [h4] at q
          have hin : p2.2.n ∈ schN s := List.mem_map.mpr ⟨p2, hp2, rfl⟩
          rw [decide_eq_true hin]
          simp only at q
          refine ⟨_, rfl, _, rfl, _, rfl, S, _, rfl, sch_getK B1.sk B1.nm hp, p.1, p.2, rfl, D, v.l0, rfl, _, rfl, ?_⟩
          refine ifD (fun hk => ?_) (fun hk => ?_)
          · rw [if_pos (V.str.inj hk)] at q
            exact q H1 S1
          rw [if_neg (fun z => hk (congrArg V.str z))] at q
          refine ⟨_, rfl, _, rfl, rfl, _, rfl, ?_⟩
          refine ifD (fun hk => ?_) (fun hk => ?_)
          · rw [if_pos (V.str.inj hk)] at q
            exact q H1 S1
          rw [if_neg (fun z => hk (congrArg V.str z))] at q
          obtain ⟨c, hc, ec1, ec2, _⟩ := idx_get hn
          have l8 := v.l8
          refine ⟨_, rfl, _, rfl, S, _, rfl, sch_getK B1.sk B1.nm hp, _, rfl, p.1, p.2, n, rfl, D, by omega, hn, fun ca c' H2 hc' hca s2 => ?_⟩
          rw [hc] at hc'
          cases hc'
          have S2 := S1.trans s2
          have B2 := B.mono S2
          refine ⟨ca, _, 1, _, rfl, rfl, SqT.of hca, atI_nat (j := 1) rfl, _, rfl, _, rfl, S, _, rfl, sch_getK B2.sk B2.nm hp2, p2.1, p2.2, rfl, B2.ds p2 hp2, (B2.ok p2 hp2).l0, rfl, _, rfl, ?_⟩
          rw [ec2]
          refine ifN (fun hk => ?_) (fun hk => ?_)
          · rw [if_pos (fun z => hk (congrArg V.str z))] at q
            exact q H2 S2
          · rw [if_neg (fun z => z (V.str.inj hk))] at q
            refine ⟨_, rfl, _, rfl, (by show 2 ≤ sizeLine; decide), fun pr hpr => ?_⟩
            have e3 := same_new hpr (.tup [.str n, .str p2.2.n])
            have S3 := S2.trans e3
            have B3 := B.mono S3
            have D3 := B3.ds p hp
            obtain ⟨_, ys, g2, g3⟩ := D3.part .r
            obtain ⟨c1, c2⟩ := ptD_ok v .r
            have io : itOk (.r (n, p2.2.n)) := lo.1
            obtain ⟨n1, n2, n3⟩ := itD_nb io
            refine ⟨_, rfl, _, rfl, S, _, rfl, sch_getK B3.sk B3.nm hp, p.1.d, _, rfl, D3.gr, _, _, (rf_mk (p := (n, p2.2.n)) upd_same).py, .lst (SqL.of g2) g3.py, shaped_of (d := rfD (n, p2.2.n)) n2 (by have : (rfD (n, p2.2.n)).dp ≤ 3 := n3; omega), shapedL_of c1 (by omega), _, rfl, ?_⟩
            have ha := has_any v io
            have ha' : ((pyOfL (ptD p.2 .r)).any fun z => PyData.eqv z (pyOf (rfD (n, p2.2.n)))) = memB p.2.rf (n, p2.2.n) := ha
            rw [ha']
            refine ite2 (fun hm => ?_) (fun hm => ?_)
            · rw [if_pos hm] at q
              exact q _ S3
            · rw [if_neg hm] at q
              exact ⟨_, rfl, _, rfl, S, s, p, .r, rfl, B3, hp, fun H4 s4 => q H4 (S3.trans s4)⟩
      · rw [if_neg hn] at q
        simp only [decide_eq_false hn]
        exact q H1 S1)
theorem ok_constraint_of {f : Addr} {fd : FuncData} (k : Kn K mg "constraint_of" s_constraint_of ["step"] f fd) (z : Z K mg) :
    Cal P w K mg base 1 "constraint_of" ["step"] (spConstraint) f fd := k.cal (by
  refine k.F.ok sc_constraint_of (fun vs H Q E h => ?_) (fun cdv A outer s H vs Q E hr h => ?_)
  · obtain ⟨st, l, rfl, _⟩ := h; rfl
  · obtain ⟨st, l, rfl, hT, q⟩ := h
    refine ⟨_, (pss_cons (ps_set (i := 1) sc_constraint_of.nd rfl (Or.inl rfl) (pe_ix ix_tup (pv 0) pe_int (fun _ _ => rfl)))
        (pss_cons (ps_if (PW.pt (pw_or (pt_cmpR op_eq (pv 1) pe_str (nomark _)) (pw_or1 (pt_cmpR op_eq (pv 1) pe_str (nomark _))))) (pss_one (ps_ret (pe_tup (pa_cons pe_str (pa_cons (pe_ix ix_tup (pv 0) pe_int (fun _ _ => rfl)) pa_nil))))) pss_nil)
        (pss_cons (ps_if (PW.pt (pw_or (pt_cmpR op_eq (pv 1) pe_str (nomark _)) (pw_or1 (pt_cmpR op_eq (pv 1) pe_str (nomark _))))) (pss_one (ps_ret (pe_tup (pa_cons pe_str (pa_cons (pe_ix ix_tup (pv 0) pe_int (fun _ _ => rfl)) pa_nil))))) pss_nil)
        (pss_one (ps_ret (pe_tup (pa_cons pe_str (pa_cons (pe_tup (pa_cons (pe_ix ix_tup (pv 0) pe_int (fun _ _ => rfl)) (pa_cons (pe_ix ix_tup (pv 0) pe_int (fun _ _ => rfl)) pa_nil))) pa_nil)))))))), ?_⟩
    obtain ⟨ys0, hst, rst⟩ := ls_at hT
    cases l with
    | addC t c =>
      simp only [lsT, lsK] at hst
      obtain ⟨v, rfl, a⟩ := tp_one rst
      refine ⟨_, rfl, st, _, 0, _, rfl, rfl, SqT.of hst, atI_nat (j := 0) rfl, ?_⟩
      refine ⟨_, rfl, rfl, _, rfl, iteDT rfl ⟨_, rfl, st, _, 2, _, rfl, rfl, SqT.of hst, atI_nat (j := 2) rfl, (by show 2 ≤ sizeLine; decide), fun p hp => ?_⟩⟩
      exact q p v _ upd_same (a.mono (KeepT.new hp _)) (same_new hp _)
    | dropC t c =>
      simp only [lsT, lsK] at hst
      obtain ⟨v, rfl, a⟩ := tp_one rst
      refine ⟨_, rfl, st, _, 0, _, rfl, rfl, SqT.of hst, atI_nat (j := 0) rfl, ?_⟩
      refine ⟨_, rfl, rfl, _, rfl, iteDF (by decide +kernel) ⟨_, rfl, rfl, _, rfl, iteDT rfl ⟨_, rfl, st, _, 2, _, rfl, rfl, SqT.of hst, atI_nat (j := 2) rfl, (by show 2 ≤ sizeLine; decide), fun p hp => ?_⟩⟩⟩
      exact q p v _ upd_same (a.mono (KeepT.new hp _)) (same_new hp _)
    | addU t n =>
      simp only [lsT, lsK] at hst
      obtain ⟨v, rfl, a⟩ := tp_one rst
      refine ⟨_, rfl, st, _, 0, _, rfl, rfl, SqT.of hst, atI_nat (j := 0) rfl, ?_⟩
      refine ⟨_, rfl, rfl, _, rfl, iteDF (by decide +kernel) ⟨_, rfl, rfl, _, rfl, iteDF (by decide +kernel) ⟨_, rfl, rfl, _, rfl, iteDT rfl ⟨_, rfl, st, _, 2, _, rfl, rfl, SqT.of hst, atI_nat (j := 2) rfl, (by show 2 ≤ sizeLine; decide), fun p hp => ?_⟩⟩⟩⟩
      exact q p v _ upd_same (a.mono (KeepT.new hp _)) (same_new hp _)
    | dropU t n =>
      simp only [lsT, lsK] at hst
      obtain ⟨v, rfl, a⟩ := tp_one rst
      refine ⟨_, rfl, st, _, 0, _, rfl, rfl, SqT.of hst, atI_nat (j := 0) rfl, ?_⟩
      refine ⟨_, rfl, rfl, _, rfl, iteDF (by decide +kernel) ⟨_, rfl, rfl, _, rfl, iteDF (by decide +kernel) ⟨_, rfl, rfl, _, rfl, iteDF (by decide +kernel) ⟨_, rfl, rfl, _, rfl, iteDT rfl ⟨_, rfl, st, _, 2, _, rfl, rfl, SqT.of hst, atI_nat (j := 2) rfl, (by show 2 ≤ sizeLine; decide), fun p hp => ?_⟩⟩⟩⟩⟩
      exact q p v _ upd_same (a.mono (KeepT.new hp _)) (same_new hp _)
    | addR t n o =>
      simp only [lsT, lsK] at hst
      cases tp_two rst
      refine ⟨_, rfl, st, _, 0, _, rfl, rfl, SqT.of hst, atI_nat (j := 0) rfl, ?_⟩
      refine ⟨_, rfl, rfl, _, rfl, iteDF (by decide +kernel) ⟨_, rfl, rfl, _, rfl, iteDF (by decide +kernel) ⟨_, rfl, rfl, _, rfl, iteDF (by decide +kernel) ⟨_, rfl, rfl, _, rfl, iteDF (by decide +kernel) ⟨_, rfl, st, _, 2, _, rfl, rfl, SqT.of hst, atI_nat (j := 2) rfl, _, rfl, st, _, 3, _, rfl, rfl, SqT.of hst, atI_nat (j := 3) rfl, (by show 2 ≤ sizeLine; decide), fun p1 hp1 => ⟨(by show 2 ≤ sizeLine; decide), fun p hp => ?_⟩⟩⟩⟩⟩⟩
      have e1 := same_new hp1 (.tup [.str n, .str o])
      have e2 := same_new hp (.tup [.str "references", .ref p1])
      exact q p (.ref p1) _ upd_same (rf_mk (p := (n, o)) (e2 _ _ upd_same)) (e1.trans e2)
    | dropR t n o =>
      simp only [lsT, lsK] at hst
      cases tp_two rst
      refine ⟨_, rfl, st, _, 0, _, rfl, rfl, SqT.of hst, atI_nat (j := 0) rfl, ?_⟩
      refine ⟨_, rfl, rfl, _, rfl, iteDF (by decide +kernel) ⟨_, rfl, rfl, _, rfl, iteDF (by decide +kernel) ⟨_, rfl, rfl, _, rfl, iteDF (by decide +kernel) ⟨_, rfl, rfl, _, rfl, iteDF (by decide +kernel) ⟨_, rfl, st, _, 2, _, rfl, rfl, SqT.of hst, atI_nat (j := 2) rfl, _, rfl, st, _, 3, _, rfl, rfl, SqT.of hst, atI_nat (j := 3) rfl, (by show 2 ≤ sizeLine; decide), fun p1 hp1 => ⟨(by show 2 ≤ sizeLine; decide), fun p hp => ?_⟩⟩⟩⟩⟩⟩
      have e1 := same_new hp1 (.tup [.str n, .str o])
      have e2 := same_new hp (.tup [.str "references", .ref p1])
      exact q p (.ref p1) _ upd_same (rf_mk (p := (n, o)) (e2 _ _ upd_same)) (e1.trans e2))
theorem ok_drop_code {f : Addr} {fd : FuncData} (k : Kn K mg "drop_code" s_drop_code ["schema", "table", "part", "item"] f fd) (z : Z K mg)
    {g_is_referenced : Addr} {gd_is_referenced : FuncData} (c_is_referenced : Cal P w K mg base 1 "is_referenced" ["schema", "table"] (spIsReferenced) g_is_referenced gd_is_referenced) :
    Cal P w K mg base 2 "drop_code" ["schema", "table", "part", "item"] (spDropCode) f fd := k.cal (by
  refine k.F.ok sc_drop_code (fun vs H Q E h => ?_) (fun cdv A outer s H vs Q E hr h => ?_)
  · obtain ⟨S, s, t, i, v, rfl, _⟩ := h; rfl
  · obtain ⟨S, s, t, i, v, rfl, B, hv, io, q⟩ := h
    have hu := hu_of hr
    refine ⟨_, (pss_cons (ps_if (PW.pt (pw_or (pt_cmp (pc_dnotin hu (pv 1) (pv 0))) (pw_or1 (pt_cmpR (op_notInD (units_of hr)) (pv 3) (pe_dget hu (pe_dget hu (pv 0) (pv 1) (fun _ _ => rfl)) (pv 2) (fun _ _ => rfl)) (by rfl))))) (pss_one (ps_ret pe_str)) pss_nil)
        (pss_cons (ps_if (pt_val (pe_call c_is_referenced.G (hr.mono (by decide)) (by rfl) c_is_referenced.m c_is_referenced.kp c_is_referenced.b .nil pass0 (pa_cons (pv 0) (pa_cons (pv 1) pa_nil)))) (pss_one (ps_ret pe_str)) pss_nil)
        (pss_one (ps_ret pe_str)))), ?_⟩
    have sm : ∀ p ∈ s, TabSm p.2 := fun p hp => (B.ok p hp).sm
    have l6 := B.l6
    refine ⟨_, rfl, _, rfl, S, _, rfl, B.in', _, rfl, ?_⟩
    rw [sch_some]
    rcases tab_cases B.nm t with ⟨h1, h2⟩ | ⟨p, hp, rfl, h2⟩
    · rw [h2] at q
      rw [decide_eq_false h1]
      exact q H (Same.refl _)
    · rw [h2] at q
      have hin : p.2.n ∈ schN s := List.mem_map.mpr ⟨p, hp, rfl⟩
      rw [decide_eq_true hin]
      obtain ⟨g1, xs, g2, g3⟩ := (B.ds p hp).part (itP i)
      obtain ⟨c1, c2⟩ := ptD_ok (B.ok p hp) (itP i)
      obtain ⟨n1, n2, n3⟩ := itD_nb io
      refine ⟨_, rfl, _, rfl, _, rfl, S, _, rfl, sch_getK B.sk B.nm hp, _, rfl, p.1.d, _, rfl, g1, _, _, hv.py, .lst (SqL.of g2) g3.py, shaped_of n2 (by omega), shapedL_of c1 (by omega), _, rfl, ?_⟩
      rw [has_any (B.ok p hp) io]
      simp only [dropM] at q
      refine ite2 (fun h3 => ?_) (fun h3 => ?_)
      · rw [if_neg (by simpa using h3)] at q
        exact q H (Same.refl _)
      · rw [if_pos (by simpa using h3)] at q
        refine ⟨_, rfl, _, rfl, S, s, p.2.n, rfl, B.sk, B.ds, B.nm, sm, by omega, fun H1 s1 => ⟨_, rfl, ?_⟩⟩
        refine ite2 (fun h4 => ?_) (fun h4 => ?_)
        · have h4' : refdM (tbs s) p.2.n = true := h4
          rw [if_pos h4'] at q
          exact q H1 s1
        · have h4' : ¬ refdM (tbs s) p.2.n = true := h4
          rw [if_neg h4'] at q
          exact q H1 s1)
theorem ok_limit_step_code {f : Addr} {fd : FuncData} (k : Kn K mg "limit_step_code" s_limit_step_code ["schema", "step"] f fd) (z : Z K mg)
    {g_add_check_code : Addr} {gd_add_check_code : FuncData} (c_add_check_code : Cal P w K mg base 8 "add_check_code" ["schema", "step"] (spCode (fun l => ∃ t c, l = .addC t c)) g_add_check_code gd_add_check_code)
    {g_add_unique_code : Addr} {gd_add_unique_code : FuncData} (c_add_unique_code : Cal P w K mg base 3 "add_unique_code" ["schema", "step"] (spCode (fun l => ∃ t n, l = .addU t n)) g_add_unique_code gd_add_unique_code)
    {g_add_reference_code : Addr} {gd_add_reference_code : FuncData} (c_add_reference_code : Cal P w K mg base 3 "add_reference_code" ["schema", "step"] (spCode (fun l => ∃ t n o, l = .addR t n o)) g_add_reference_code gd_add_reference_code)
    {g_constraint_of : Addr} {gd_constraint_of : FuncData} (c_constraint_of : Cal P w K mg base 1 "constraint_of" ["step"] (spConstraint) g_constraint_of gd_constraint_of)
    {g_drop_code : Addr} {gd_drop_code : FuncData} (c_drop_code : Cal P w K mg base 2 "drop_code" ["schema", "table", "part", "item"] (spDropCode) g_drop_code gd_drop_code) :
    Cal P w K mg base 9 "limit_step_code" ["schema", "step"] (spCode (fun _ => True)) f fd := k.cal (by
  refine k.F.ok sc_limit_step_code (fun vs H Q E h => ?_) (fun cdv A outer s H vs Q E hr h => ?_)
  · obtain ⟨S, s, st, l, rfl, _⟩ := h; rfl
  · obtain ⟨S, s, st, l, rfl, B, hT, lo, _, q⟩ := h
    refine ⟨_, (pss_cons (ps_set (i := 2) sc_limit_step_code.nd rfl (Or.inl rfl) (pe_ix ix_tup (pv 1) pe_int (fun _ _ => rfl)))
        (pss_cons (ps_set (i := 3) sc_limit_step_code.nd rfl (Or.inl rfl) (pe_ix ix_tup (pv 1) pe_int (fun _ _ => rfl)))
        (pss_cons (ps_if (pt_cmpR op_eq (pv 2) pe_str (nomark _)) (pss_one (ps_ret (pe_call c_add_check_code.G (hr.mono (by decide)) (by rfl) c_add_check_code.m c_add_check_code.kp c_add_check_code.b .nil pass0 (pa_cons (pv 0) (pa_cons (pv 1) pa_nil))))) pss_nil)
        (pss_cons (ps_if (pt_cmpR op_eq (pv 2) pe_str (nomark _)) (pss_one (ps_ret (pe_call c_add_unique_code.G (hr.mono (by decide)) (by rfl) c_add_unique_code.m c_add_unique_code.kp c_add_unique_code.b .nil pass0 (pa_cons (pv 0) (pa_cons (pv 1) pa_nil))))) pss_nil)
        (pss_cons (ps_if (pt_cmpR op_eq (pv 2) pe_str (nomark _)) (pss_one (ps_ret (pe_call c_add_reference_code.G (hr.mono (by decide)) (by rfl) c_add_reference_code.m c_add_reference_code.kp c_add_reference_code.b .nil pass0 (pa_cons (pv 0) (pa_cons (pv 1) pa_nil))))) pss_nil)
        (pss_cons (ps_asg (pe_call c_constraint_of.G (hr.mono (by decide)) (by rfl) c_constraint_of.m c_constraint_of.kp c_constraint_of.b .nil pass0 (pa_cons (pv 1) pa_nil)) (pg_tup (by rfl) (pgs_cons (pg_name (i := 4) sc_limit_step_code.nd rfl (Or.inl rfl)) (pgs_cons (pg_name (i := 5) sc_limit_step_code.nd rfl (Or.inl rfl)) pgs_nil))))
        (pss_one (ps_ret (pe_call c_drop_code.G (hr.mono (by decide)) (by rfl) c_drop_code.m c_drop_code.kp c_drop_code.b .nil pass0 (pa_cons (pv 0) (pa_cons (pv 3) (pa_cons (pv 4) (pa_cons (pv 5) pa_nil))))))))))))), ?_⟩
    obtain ⟨ys0, hst, rst⟩ := ls_at hT
    refine ⟨_, rfl, st, _, 0, _, rfl, rfl, SqT.of hst, atI_nat (j := 0) rfl, _, rfl, st, _, 1, _, rfl, rfl, SqT.of hst, atI_nat (j := 1) rfl, ?_⟩
    cases l with
    | addC t c =>
      simp only [lsT, lsK] at hst ⊢
      exact ⟨_, rfl, rfl, _, rfl, iteDT rfl ⟨_, rfl, _, rfl, S, s, st, _, rfl, B, hT, lo, ⟨_, _, rfl⟩, fun H1 s1 => q H1 s1⟩⟩
    | addU t n =>
      simp only [lsT, lsK] at hst ⊢
      exact ⟨_, rfl, rfl, _, rfl, iteDF (by decide +kernel) ⟨_, rfl, rfl, _, rfl, iteDT rfl ⟨_, rfl, _, rfl, S, s, st, _, rfl, B, hT, lo, ⟨_, _, rfl⟩, fun H1 s1 => q H1 s1⟩⟩⟩
    | addR t n o =>
      simp only [lsT, lsK] at hst ⊢
      exact ⟨_, rfl, rfl, _, rfl, iteDF (by decide +kernel) ⟨_, rfl, rfl, _, rfl, iteDF (by decide +kernel) ⟨_, rfl, rfl, _, rfl, iteDT rfl ⟨_, rfl, _, rfl, S, s, st, _, rfl, B, hT, lo, ⟨_, _, _, rfl⟩, fun H1 s1 => q H1 s1⟩⟩⟩⟩
    | dropC t c =>
      simp only [lsT, lsK] at hst ⊢
      refine ⟨_, rfl, rfl, _, rfl, iteDF (by decide +kernel) ⟨_, rfl, rfl, _, rfl, iteDF (by decide +kernel) ⟨_, rfl, rfl, _, rfl, iteDF (by decide +kernel) ?_⟩⟩⟩
      refine ⟨_, rfl, st, _, rfl, hT, fun p v H1 hp hv s1 => ?_⟩
      refine ⟨p, _, rfl, SqT.of hp, rfl, _, _, rfl, _, _, rfl, rfl, ?_⟩
      exact ⟨_, rfl, _, rfl, _, rfl, _, rfl, S, s, t, .c c, v, rfl, B.mono s1, hv, lo.1, fun H2 s2 => q H2 (s1.trans s2)⟩
    | dropU t n =>
      simp only [lsT, lsK] at hst ⊢
      refine ⟨_, rfl, rfl, _, rfl, iteDF (by decide +kernel) ⟨_, rfl, rfl, _, rfl, iteDF (by decide +kernel) ⟨_, rfl, rfl, _, rfl, iteDF (by decide +kernel) ?_⟩⟩⟩
      refine ⟨_, rfl, st, _, rfl, hT, fun p v H1 hp hv s1 => ?_⟩
      refine ⟨p, _, rfl, SqT.of hp, rfl, _, _, rfl, _, _, rfl, rfl, ?_⟩
      exact ⟨_, rfl, _, rfl, _, rfl, _, rfl, S, s, t, .u n, v, rfl, B.mono s1, hv, lo.1, fun H2 s2 => q H2 (s1.trans s2)⟩
    | dropR t n o =>
      simp only [lsT, lsK] at hst ⊢
      refine ⟨_, rfl, rfl, _, rfl, iteDF (by decide +kernel) ⟨_, rfl, rfl, _, rfl, iteDF (by decide +kernel) ⟨_, rfl, rfl, _, rfl, iteDF (by decide +kernel) ?_⟩⟩⟩
      refine ⟨_, rfl, st, _, rfl, hT, fun p v H1 hp hv s1 => ?_⟩
      refine ⟨p, _, rfl, SqT.of hp, rfl, _, _, rfl, _, _, rfl, rfl, ?_⟩
      exact ⟨_, rfl, _, rfl, _, rfl, _, rfl, S, s, t, .r (n, o), v, rfl, B.mono s1, hv, lo.1, fun H2 s2 => q H2 (s1.trans s2)⟩)
theorem ok_step_code {f : Addr} {fd : FuncData} (k : Kn K mg "step_code" s_step_code ["schema", "step"] f fd) (z : Z K mg)
    {g_limit_step_code : Addr} {gd_limit_step_code : FuncData} (c_limit_step_code : Cal P w K mg base 9 "limit_step_code" ["schema", "step"] (spCode (fun _ => True)) g_limit_step_code gd_limit_step_code) :
    Cal P w K mg base 10 "step_code" ["schema", "step"] (spCode (fun _ => True)) f fd := k.cal (by
  obtain ⟨a_COLUMN_KINDS, k_COLUMN_KINDS, q_COLUMN_KINDS⟩ := z.c_COLUMN_KINDS
  obtain ⟨a_TABLE_KINDS, k_TABLE_KINDS, q_TABLE_KINDS⟩ := z.c_TABLE_KINDS
  obtain ⟨a_GROUP_KINDS, k_GROUP_KINDS, q_GROUP_KINDS⟩ := z.c_GROUP_KINDS
  refine k.F.ok sc_step_code (fun vs H Q E h => ?_) (fun cdv A outer s H vs Q E hr h => ?_)
  · obtain ⟨S, s, st, l, rfl, _⟩ := h; rfl
  · obtain ⟨S, s, st, l, rfl, B, hT, h1⟩ := h
    refine ⟨_, (pss_cons (ps_set (i := 2) sc_step_code.nd rfl (Or.inl rfl) (pe_ix ix_tup (pv 1) pe_int (fun _ _ => rfl)))
        (pss_cons (ps_if (pt_cmpR op_in_seq (pv 2) (pe_glob (v := .ref a_COLUMN_KINDS) rfl k_COLUMN_KINDS rfl) (by rfl)) (pss_one ps_no) pss_nil)
        (pss_cons (ps_if (pt_cmpR op_in_seq (pv 2) (pe_glob (v := .ref a_TABLE_KINDS) rfl k_TABLE_KINDS rfl) (by rfl)) (pss_one ps_no) pss_nil)
        (pss_cons (ps_if (pt_cmpR op_in_seq (pv 2) (pe_glob (v := .ref a_GROUP_KINDS) rfl k_GROUP_KINDS rfl) (by rfl)) (pss_one ps_no) pss_nil)
        (pss_one (ps_ret (pe_call c_limit_step_code.G (hr.mono (by decide)) (by rfl) c_limit_step_code.m c_limit_step_code.kp c_limit_step_code.b .nil pass0 (pa_cons (pv 0) (pa_cons (pv 1) pa_nil))))))))), ?_⟩
    obtain ⟨ys0, hst, rst⟩ := ls_at hT
    refine ⟨_, rfl, st, _, 0, _, rfl, rfl, SqT.of hst, atI_nat (j := 0) rfl, ?_⟩
    refine ⟨_, rfl, a_COLUMN_KINDS, _, rfl, .inr (q_COLUMN_KINDS _), rfl, rfl, _, rfl, ?_⟩
    refine ite2 (fun z => absurd z (by show ¬ inV (.str (lsK l)) _ = true; cases l <;> (simp only [lsK]; decide +kernel))) (fun _ => ?_)
    refine ⟨_, rfl, a_TABLE_KINDS, _, rfl, .inr (q_TABLE_KINDS _), rfl, rfl, _, rfl, ?_⟩
    refine ite2 (fun z => absurd z (by show ¬ inV (.str (lsK l)) _ = true; cases l <;> (simp only [lsK]; decide +kernel))) (fun _ => ?_)
    refine ⟨_, rfl, a_GROUP_KINDS, _, rfl, .inr (q_GROUP_KINDS _), rfl, rfl, _, rfl, ?_⟩
    refine ite2 (fun z => absurd z (by show ¬ inV (.str (lsK l)) _ = true; cases l <;> (simp only [lsK]; decide +kernel))) (fun _ => ?_)
    exact ⟨_, rfl, _, rfl, S, s, st, l, rfl, B, hT, h1⟩)
theorem ok_copy_description {f : Addr} {fd : FuncData} (k : Kn K mg "copy_description" s_copy_description ["description"] f fd) (z : Z K mg) :
    Cal P w K mg base 1 "copy_description" ["description"] (spCopyDesc) f fd := k.cal (by
  refine k.F.ok sc_copy_description (fun vs H Q E h => ?_) (fun cdv A outer s H vs Q E hr h => ?_)
  · obtain ⟨a, tab, rfl, _⟩ := h; rfl
  · obtain ⟨a, tab, rfl, D, q⟩ := h
    have hu := hu_of hr
    refine ⟨_, (pss_one (ps_ret (pe_disp (pps_cons pe_str (pe_callTy call_list_of (by rfl) z.list (by decide +kernel) (pa_cons (pe_dget hu (pv 0) pe_str (fun _ _ => rfl)) pa_nil)) (pps_cons pe_str (pe_callTy call_list_of (by rfl) z.list (by decide +kernel) (pa_cons (pe_dget hu (pv 0) pe_str (fun _ _ => rfl)) pa_nil)) (pps_cons pe_str (pe_callTy call_list_of (by rfl) z.list (by decide +kernel) (pa_cons (pe_dget hu (pv 0) pe_str (fun _ _ => rfl)) pa_nil)) (pps_cons pe_str (pe_callTy call_list_of (by rfl) z.list (by decide +kernel) (pa_cons (pe_dget hu (pv 0) pe_str (fun _ _ => rfl)) pa_nil)) pps_nil)))) (by rfl) (by rfl) (fun z => by cases z) (by decide)))), ?_⟩
    obtain ⟨xc, c1, c2⟩ := D.co
    obtain ⟨xk, k1, k2⟩ := D.ch
    have u1 := D.un
    obtain ⟨xr, r1, r2⟩ := D.rf
    refine fun p hp => ?_
    have e0 := same_new hp (.dK [])
    refine ⟨_, rfl, a.d, _, rfl, (D.frame (KeepT.of e0) (fun o => e0 _ _) (fun b _ o => e0 _ _)).gc, a.c, xc, rfl, .inl (SqL.of (e0 _ _ c1)), fun c hc => ?_⟩
    have e1 := e0.trans (same_new hc (.lst xc))
    refine ⟨_, rfl, a.d, _, rfl, (D.frame (KeepT.of e1) (fun o => e1 _ _) (fun b _ o => e1 _ _)).gk, a.k, xk, rfl, .inl (SqL.of (e1 _ _ k1)), fun k hk => ?_⟩
    have e2 := e1.trans (same_new hk (.lst xk))
    refine ⟨_, rfl, a.d, _, rfl, (D.frame (KeepT.of e2) (fun o => e2 _ _) (fun b _ o => e2 _ _)).gu, a.u, _, rfl, .inl (SqL.of (e2 _ _ u1)), fun u hu' => ?_⟩
    have e3 := e2.trans (same_new hu' (.lst (tab.un.map V.str)))
    refine ⟨_, rfl, a.d, _, rfl, (D.frame (KeepT.of e3) (fun o => e3 _ _) (fun b _ o => e3 _ _)).gr, a.r, xr, rfl, .inl (SqL.of (e3 _ _ r1)), fun r hr' => ?_⟩
    have m1 := same_new hc (.lst xc)
    have m2 := same_new hk (.lst xk)
    have m3 := same_new hu' (.lst (tab.un.map V.str))
    have m4 := same_new hr' (.lst xr)
    have ckn : c ≠ k := ne_of_none upd_same hk
    have cun : c ≠ u := ne_of_none (m2 _ _ upd_same) hu'
    have crn : c ≠ r := ne_of_none (m3 _ _ (m2 _ _ upd_same)) hr'
    have kun : k ≠ u := ne_of_none upd_same hu'
    have krn : k ≠ r := ne_of_none (m3 _ _ upd_same) hr'
    have urn : u ≠ r := ne_of_none upd_same hr'
    have fr1 : H c = none := (same_new hp _).free hc
    have fr2 : H k = none := (same_new hp _).free (m1.free hk)
    have fr3 : H u = none := (same_new hp _).free (m1.free (m2.free hu'))
    have fr4 : H r = none := (same_new hp _).free (m1.free (m2.free (m3.free hr')))
    have kp : (upd (upd (upd (upd (upd H p (.dK [])) c (.lst xc)) k (.lst xk)) u (.lst (tab.un.map V.str))) r (.lst xr)) p = some (.dK []) := m4 _ _ (m3 _ _ (m2 _ _ (m1 _ _ upd_same)))
    have kc : (upd (upd (upd (upd (upd H p (.dK [])) c (.lst xc)) k (.lst xk)) u (.lst (tab.un.map V.str))) r (.lst xr)) c = some (.lst xc) := m4 _ _ (m3 _ _ (m2 _ _ upd_same))
    have kk : (upd (upd (upd (upd (upd H p (.dK [])) c (.lst xc)) k (.lst xk)) u (.lst (tab.un.map V.str))) r (.lst xr)) k = some (.lst xk) := m4 _ _ (m3 _ _ upd_same)
    have ku : (upd (upd (upd (upd (upd H p (.dK [])) c (.lst xc)) k (.lst xk)) u (.lst (tab.un.map V.str))) r (.lst xr)) u = some (.lst (tab.un.map V.str)) := m4 _ _ upd_same
    have kr : (upd (upd (upd (upd (upd H p (.dK [])) c (.lst xc)) k (.lst xk)) u (.lst (tab.un.map V.str))) r (.lst xr)) r = some (.lst xr) := upd_same
    have S5 : Same H (upd (upd (upd (upd (upd H p (.dK [])) c (.lst xc)) k (.lst xk)) u (.lst (tab.un.map V.str))) r (.lst xr)) := e3.trans m4
    generalize hH : (upd (upd (upd (upd (upd H p (.dK [])) c (.lst xc)) k (.lst xk)) u (.lst (tab.un.map V.str))) r (.lst xr)) = H5 at *
    refine ⟨kp, descD ⟨p, c, k, u, r⟩, rfl, (by show 4 ≤ 15; decide), ?_⟩
    rw [merge_desc]
    have np : ∀ b, (∃ ys, H5 b = some (.lst ys)) → b ≠ p := fun b ⟨ys, e⟩ => ne_of e kp (by intro z; cases z)
    have kt : KeepT H (upd H5 p (.dK (descD ⟨p, c, k, u, r⟩))) := (KeepT.of S5).trans (KeepT.upd fun ys z => by rw [kp] at z; cases z)
    refine q ⟨p, c, k, u, r⟩ _ ⟨upd_same, ⟨xc, by rw [upd_ne (np _ ⟨_, kc⟩)]; exact kc, c2.mono kt⟩, ⟨xk, by rw [upd_ne (np _ ⟨_, kk⟩)]; exact kk, k2.mono kt⟩, by rw [upd_ne (np _ ⟨_, ku⟩)]; exact ku, ⟨xr, by rw [upd_ne (np _ ⟨_, kr⟩)]; exact kr, r2.mono kt⟩⟩ (same_upd hp _ S5) hp ?_ ?_
    · intro b hb
      simp only [adL, List.mem_cons, List.not_mem_nil, or_false] at hb
      rcases hb with rfl | rfl | rfl | rfl
      · exact fr1
      · exact fr2
      · exact fr3
      · exact fr4
    · simp only [adL, List.nodup_cons, List.mem_cons, List.not_mem_nil, or_false, not_or, not_false_eq_true, List.nodup_nil, and_true]
      exact ⟨⟨ckn, cun, crn⟩, ⟨kun, krn⟩, urn⟩)
theorem ok_copy_schema {f : Addr} {fd : FuncData} (k : Kn K mg "copy_schema" s_copy_schema ["schema"] f fd) (z : Z K mg)
    {g_copy_description : Addr} {gd_copy_description : FuncData} (c_copy_description : Cal P w K mg base 1 "copy_description" ["description"] (spCopyDesc) g_copy_description gd_copy_description) :
    Cal P w K mg base 2 "copy_schema" ["schema"] (spCopySchema) f fd := k.cal (by
  refine k.F.ok sc_copy_schema (fun vs H Q E h => ?_) (fun cdv A outer s H vs Q E hr h => ?_)
  · obtain ⟨S, s, rfl, _⟩ := h; rfl
  · obtain ⟨S, s, rfl, hS, hD, nm, hl, q⟩ := h
    have hu := hu_of hr
    refine ⟨_, (pss_one (ps_ret (pe_lock (pe_dc (own := [("table", 1)]) (g := gName 1) (tt := tYes) (by rfl) sc_copy_schema.nd (pi_keys (pv 0)) (blkOk_by (own := [("table", 1)]) (N := ["schema", "table"]) (sc := defScope s_copy_schema) (by decide +kernel)) (fun _ _ _ _ _ => pg_name (i := 1) sc_copy_schema.nd rfl (Or.inl rfl)) (fun _ _ _ _ _ => pts_nil) (fun _ _ _ _ _ => (pv 1)) (fun _ _ _ _ _ => (pe_call c_copy_description.G (hr.mono (by decide)) (by rfl) c_copy_description.m c_copy_description.kp c_copy_description.b .nil pass0 (pa_cons (pe_dget hu (pv 0) (pv 1) (fun _ _ => rfl)) pa_nil))))))), ?_⟩
    have neS := desc_ne hS hD
    refine ⟨S, _, hS, True.intro, fun od => ?_⟩
    refine ⟨_, rfl, S, od, rfl, .inl ⟨schK s, upd_same, fun N hN => inner walk_keys (fun i H' => ∃ s' : Sch, H' S = some (.frz od (.dK (schK s))) ∧ H' N = some (.dK (schK s')) ∧ (∀ p ∈ s', DescAt H' p.1 p.2) ∧ s'.map (·.2) = (s.take i).map (·.2) ∧ (∀ p ∈ s', H p.1.d = none ∧ p.1.d ≠ N ∧ p.1.d ≠ S ∧ ∀ b ∈ adL p.1, H b = none ∧ b ≠ S ∧ b ≠ N) ∧ (s'.map fun p => p.1.d).Nodup ∧ (schL s').Nodup ∧ (∀ b o, H b = some o → b ≠ S → H' b = some o)) ⟨[], ?_, upd_same, (by intro p hp; cases hp), rfl, (by intro p hp; cases hp), List.nodup_nil, List.nodup_nil, fun b o h n => ?_⟩ (fun i H' _ ⟨_, e, _⟩ => e) ?_ ?_⟩⟩
    · rw [upd_ne (ne_of_none upd_same hN)]; exact upd_same
    · rw [upd_ne (ne_of_none (by rw [upd_ne n]; exact h) hN), upd_ne n]; exact h
    · rintro i x H1 H1' hi ⟨s', hS1, hN1, hD1, hm1, fr1, dn1, ln1, se1⟩ ⟨rfl, key, wv, ek, rfl⟩
      obtain ⟨p, ep, rfl, rfl⟩ := sch_at ek
      have hp : p ∈ s := List.mem_of_getElem? ep
      have Dp : DescAt H1' p.1 p.2 := (hD p hp).frame (fun b xs e => se1 _ _ e (ne_of e hS (by intro z; cases z))) (fun o e => se1 _ _ e (neS p hp)) (fun b hb o e => se1 _ _ e (fun z => by
        obtain ⟨xs, g⟩ := (hD p hp).isL _ hb
        rw [z, hS] at g; cases g))
      refine ⟨rfl, _, rfl, _, rfl, _, rfl, S, _, rfl, sch_getF hS1 nm hp, p.1, p.2, rfl, Dp, fun a H2 D2 s2 f2 l2 nd2 => ?_⟩
      have ls' : s'.length = i := by
        have := congrArg List.length hm1
        have hi' : i < s.length := (List.getElem?_eq_some_iff.mp ep).1
        simp only [List.length_map, List.length_take] at this
        omega
      have hi' : i < s.length := (List.getElem?_eq_some_iff.mp ep).1
      have hno : p.2.n ∉ schN s' := fun z => by
        have e1 : schN s' = (schN s).take i := by
          have := congrArg (List.map fun t : Tab => t.n) hm1
          unfold schN
          rw [List.map_map, List.map_map] at this
          exact this.trans List.map_take
        rw [e1] at z
        obtain ⟨j, hj, ej⟩ := List.getElem_of_mem z
        rw [List.length_take] at hj
        rw [List.getElem_take] at ej
        have b1 : (schN s)[j]? = some p.2.n := by rw [List.getElem?_eq_getElem (by omega), ej]
        have b2 : (schN s)[i]? = some p.2.n := by unfold schN; rw [List.getElem?_map, ep]; rfl
        have := nd_ix nm b1 b2
        omega
      have hN2 := s2 _ _ hN1
      have hS2 := s2 _ _ hS1
      refine ⟨schK s', Sum.inr p.2.n, rfl, hN2, (by unfold schK; rw [List.length_map]; exact small1000 (by omega)), ?_⟩
      rw [schK_new (s := s') (a := a) (tab := p.2) hno]
      have kt := KeepT.lock (o := .dK (schK (s' ++ [(a, p.2)]))) hN2
      have notN : ∀ {b : Addr}, (∃ xs, H2 b = some (.lst xs)) → b ≠ N := fun ⟨xs, e⟩ z => by rw [z, hN2] at e; cases e
      have notS : ∀ {b : Addr}, (∃ xs, H2 b = some (.lst xs)) → b ≠ S := fun ⟨xs, e⟩ z => by rw [z, hS2] at e; cases e
      have old : ∀ p' ∈ s', DescAt H2 p'.1 p'.2 := fun p' hp' => (hD1 p' hp').frame (KeepT.of s2) (fun o => s2 _ _) (fun b _ o => s2 _ _)
      have fN : H N = none := by
        have h2 : N ≠ S := (ne_of_none upd_same hN).symm
        rw [upd_ne h2] at hN
        exact hN
      have aN : a.d ≠ N := (ne_of_none hN1 f2).symm
      have aS : a.d ≠ S := (ne_of_none hS1 f2).symm
      have back : ∀ {b : Addr}, H1' b = none → H b = none ∧ b ≠ S := fun {b} hb => by
        have n1 : b ≠ S := (ne_of_none hS1 hb).symm
        refine ⟨?_, n1⟩
        cases e : H b with
        | none => rfl
        | some o => have := se1 _ _ e n1; rw [hb] at this; cases this
      refine ⟨s' ++ [(a, p.2)], ?_, upd_same, ?_, ?_, ?_, ?_, ?_, ?_⟩
      · rw [upd_ne (ne_of_none upd_same hN)]; exact hS2
      · intro p' hp'
        rcases List.mem_append.mp hp' with h | h
        · exact (old p' h).lock hN2 (fr1 p' h).2.1
        · rw [List.mem_singleton.mp h]; exact D2.lock hN2 aN
      · rw [List.map_append, hm1, List.take_add_one, ep, List.map_append]; rfl
      · intro p' hp'
        rcases List.mem_append.mp hp' with h | h
        · exact fr1 p' h
        · rw [List.mem_singleton.mp h]
          refine ⟨(back f2).1, aN, aS, fun b hb => ⟨(back (l2 b hb)).1, (back (l2 b hb)).2, fun z => ?_⟩⟩
          have := l2 b hb
          rw [z, hN1] at this; cases this
      · rw [List.map_append]
        refine List.nodup_append.mpr ⟨dn1, by simp, fun x hx y hy => ?_⟩
        have : y = a.d := by simpa using hy
        subst this
        rintro rfl
        obtain ⟨p', hp', e⟩ := List.mem_map.mp hx
        have := (hD1 p' hp').dk
        have e' : p'.1.d = a.d := e
        rw [e', f2] at this; cases this
      · unfold schL
        rw [List.flatMap_append]
        refine List.nodup_append.mpr ⟨ln1, by simpa using nd2, fun x hx y hy => ?_⟩
        rintro rfl
        obtain ⟨p', hp', hb⟩ := List.mem_flatMap.mp hx
        obtain ⟨xs, g⟩ := (hD1 p' hp').isL _ hb
        have : x ∈ adL a := by simpa using hy
        have := l2 x this
        rw [g] at this; cases this
      · intro b o e n
        rw [upd_ne (ne_of_none e fN)]
        exact s2 _ _ (se1 b o e n)
    · rintro H1 ⟨s', hS1, hN1, hD1, hm1, fr1, dn1, ln1, se1⟩
      refine ⟨hS1, ?_⟩
      have fN : H N = none := by
        have h2 : N ≠ S := (ne_of_none upd_same hN).symm
        rw [upd_ne h2] at hN
        exact hN
      have nS : N ≠ S := (ne_of_none upd_same hN).symm
      have kt : KeepT H1 (upd H1 S (.dK (schK s))) := KeepT.upd fun xs z => by rw [hS1] at z; cases z
      have lk : (schK s).length = s.length := by unfold schK; rw [List.length_map]
      rw [lk, List.take_length] at hm1
      refine q N s' _ ⟨by rw [upd_ne nS]; exact hN1, fun p hp => (hD1 p hp).frame kt (fun o e => by rw [upd_ne (fr1 p hp).2.2.1]; exact e) (fun b hb o e => by rw [upd_ne ((fr1 p hp).2.2.2 b hb).2.1]; exact e), hm1, fN, fun p hp => ⟨(fr1 p hp).1, (fr1 p hp).2.1, fun b hb => ((fr1 p hp).2.2.2 b hb).1⟩, dn1, ln1, fun b o e => ?_⟩
      by_cases z : b = S
      · subst z; rw [hS] at e; cases e; exact upd_same
      · rw [upd_ne z]; exact se1 b o e z)
theorem ok_limit_step_target {f : Addr} {fd : FuncData} (k : Kn K mg "limit_step_target" s_limit_step_target ["schema", "step"] f fd) (z : Z K mg)
    {g_copy_schema : Addr} {gd_copy_schema : FuncData} (c_copy_schema : Cal P w K mg base 2 "copy_schema" ["schema"] (spCopySchema) g_copy_schema gd_copy_schema)
    {g_constraint_of : Addr} {gd_constraint_of : FuncData} (c_constraint_of : Cal P w K mg base 1 "constraint_of" ["step"] (spConstraint) g_constraint_of gd_constraint_of) :
    Cal P w K mg base 3 "limit_step_target" ["schema", "step"] (spTargL) f fd := k.cal (by
  refine k.F.ok sc_limit_step_target (fun vs H Q E h => ?_) (fun cdv A outer s H vs Q E hr h => ?_)
  · obtain ⟨S, s, st, l, rfl, _⟩ := h; rfl
  · obtain ⟨S, s, st, l, rfl, B, hT, lo, ok, q⟩ := h
    have hu := hu_of hr
    refine ⟨_, (pss_cons (ps_set (i := 2) sc_limit_step_target.nd rfl (Or.inl rfl) (pe_call c_copy_schema.G (hr.mono (by decide)) (by rfl) c_copy_schema.m c_copy_schema.kp c_copy_schema.b .nil pass0 (pa_cons (pv 0) pa_nil)))
        (pss_cons (ps_asg (pe_call c_constraint_of.G (hr.mono (by decide)) (by rfl) c_constraint_of.m c_constraint_of.kp c_constraint_of.b .nil pass0 (pa_cons (pv 1) pa_nil)) (pg_tup (by rfl) (pgs_cons (pg_name (i := 3) sc_limit_step_target.nd rfl (Or.inl rfl)) (pgs_cons (pg_name (i := 4) sc_limit_step_target.nd rfl (Or.inl rfl)) pgs_nil))))
        (pss_cons (ps_set (i := 5) sc_limit_step_target.nd rfl (Or.inl rfl) (pe_dget hu (pe_dget hu (pv 2) (pe_ix ix_tup (pv 1) pe_int (fun _ _ => rfl)) (fun _ _ => rfl)) (pv 3) (fun _ _ => rfl)))
        (pss_cut (ps_if (pt_cmpR op_in_seq (pe_ix ix_tup (pv 1) pe_int (fun _ _ => rfl)) (pe_tup (pa_cons pe_str (pa_cons pe_str (pa_cons pe_str pa_nil)))) (by rfl)) (pss_one (ps_expr (pe_bm PySem.F.plainAttrs_list PySem.F.slot_list_append PySem.F.type_list_append mt_append (pv 5) (pa_cons (pv 4) pa_nil)))) (pss_one (ps_expr (pe_bm PySem.F.plainAttrs_list PySem.F.slot_list_remove PySem.F.type_list_remove (mt_removeD (units_of hr)) (pv 5) (pa_cons (pv 4) pa_nil)))))
        (pss_one (ps_ret (pv 2))))))), ?_⟩
    obtain ⟨x, ex, ct⟩ := codeL_some ok
    obtain ⟨p, hp, en, rfl⟩ : ∃ p ∈ s, p.2.n = lsT l ∧ x = p.2 := by
      rcases tab_cases B.nm (lsT l) with ⟨_, h2⟩ | ⟨p, hp, e1, h2⟩
      · rw [h2] at ex; cases ex
      · rw [h2] at ex; exact ⟨p, hp, e1, (Option.some.inj ex).symm⟩
    have l6 := B.l6
    refine ⟨_, rfl, S, s, rfl, B.sk, B.ds, B.nm, by omega, fun S2 s2 H1 N => ?_⟩
    refine ⟨_, rfl, st, l, rfl, hT.mono (KeepT.of N.se), fun pr v H2 hpr hv e2 => ?_⟩
    refine ⟨pr, _, rfl, SqT.of hpr, rfl, _, _, rfl, _, _, rfl, rfl, ?_⟩
    obtain ⟨p2, hp2, ep2⟩ : ∃ p2 ∈ s2, p2.2 = p.2 := by
      have : p.2 ∈ s2.map (·.2) := by rw [N.ts]; exact List.mem_map.mpr ⟨p, hp, rfl⟩
      obtain ⟨p2, h1, h2⟩ := List.mem_map.mp this
      exact ⟨p2, h1, h2⟩
    have nm2 := N.nm B.nm
    obtain ⟨ys0, hst, rst⟩ := ls_at (hT.mono (KeepT.of (N.se.trans e2)))
    have D2 := (N.ds p2 hp2).mono e2
    obtain ⟨g1, xs, g2, g3⟩ := D2.part (itP (lsI l))
    have en2 : p2.2.n = lsT l := by rw [ep2]; exact en
    refine ⟨_, rfl, _, rfl, st, _, 1, _, rfl, rfl, SqT.of hst, atI_nat (j := 1) rfl, S2, _, rfl, by rw [← en2]; exact sch_getK (e2 _ _ N.sk) nm2 hp2, _, rfl, p2.1.d, _, rfl, g1, ?_⟩
    have hb : ptA p2.1 (itP (lsI l)) ∈ adL p2.1 := by cases itP (lsI l) <;> simp [ptA, adL]
    have ndA : (adL p2.1).Nodup := (List.pairwise_flatMap.mp N.ln).1 _ hp2
    have hts : ∀ t' : Tab, (newT p.2 l = t') → (tbs s).map (fun x => if x.n = p2.2.n then t' else x) = targL (tbs s) l := fun t' h => by
      unfold targL
      refine List.map_congr_left fun y hy => ?_
      obtain ⟨r, hr', rfl⟩ := List.mem_map.mp hy
      rw [en2]
      by_cases h2 : r.2.n = lsT l
      · rw [if_pos h2, if_pos h2, ← h]
        have : r = p := sch_one B.nm hr' hp (h2.trans en.symm)
        rw [this]
      · rw [if_neg h2, if_neg h2]
    have vt := B.ok p hp
    refine ⟨fun σ H' => ∃ v3 v4 v5, ∃ s3 : Sch, σ = [some (.ref S), some (.ref st), some (.ref S2), v3, v4, v5] ∧ NewSch H H' S2 s3 (targL (tbs s) l), ?_, ?_⟩
    · refine ⟨_, rfl, st, _, 0, _, rfl, rfl, SqT.of hst, atI_nat (j := 0) rfl, (by show 3 ≤ sizeLine; decide), fun tq htq => ?_⟩
      have e3 := same_new htq (.tup [.str "add_check", .str "add_unique", .str "add_reference"])
      refine ⟨tq, _, rfl, .inr (SqT.of upd_same), rfl, rfl, _, rfl, ?_⟩
      show if inV (.str (lsK l)) [.str "add_check", .str "add_unique", .str "add_reference"] = true then _ else _
      rw [kindA]
      have g2' := e3 _ _ g2
      have g3' := g3.mono (KeepT.of e3)
      have hv' := hv.mono (KeepT.of e3)
      have D3 := D2.mono e3
      cases hA : lsA l with
      | true =>
        have l4 := code_add ct hA
        have lx : xs.length = ptL p.2 (itP (lsI l)) := by rw [g3.length, ptD_len, ep2]
        have hnt : newT p.2 l = addIt p.2 (lsI l) := by unfold newT; rw [hA]; rfl
        refine ⟨_, rfl, .inl ⟨rfl, _, SqL.of g2'⟩, _, rfl, _, xs, _, rfl, rfl, g2', small1000 (by omega), ?_⟩
        have D4 : DescAt (upd _ (ptA p2.1 (itP (lsI l))) (.lst (xs ++ [v]))) p2.1 (addIt p2.2 (lsI l)) := D3.setPart ndA (add_cols _ _).1 (add_other _ _) (by rw [add_part]; exact TpL.snoc g3' hv')
        have N4 := N.set nm2 hp2 (e2.trans e3) (add_cols p2.2 (lsI l)).2 D4
        have e4 : (s.map (·.2)).map (fun x => if x.n = p2.2.n then addIt p2.2 (lsI l) else x) = targL (tbs s) l := hts _ (by rw [hnt, ep2])
        rw [e4] at N4
        exact ⟨_, _, _, _, rfl, N4⟩
      | false =>
        have hi := code_drop ct hA
        have hi2 : hasIt p2.2 (lsI l) = true := by rw [ep2]; exact hi
        have v2 : TabV p2.2 := by rw [ep2]; exact vt
        obtain ⟨j, hj, ej⟩ := del_place v2 lo.1 hi2
        obtain ⟨c1, c2⟩ := ptD_ok v2 (itP (lsI l))
        obtain ⟨n1, n2, n3⟩ := itD_nb lo.1
        have hnt : newT p.2 l = delIt p.2 (lsI l) := by unfold newT; rw [hA]; rfl
        refine ⟨_, rfl, .inl ⟨rfl, _, SqL.of g2'⟩, _, rfl, _, _, _, _, xs, j, rfl, rfl, g2', g3'.py, hv'.py, PySem.PyData.plainAll_of_canLay0 _ (layL_of _ c1), PySem.PyData.plain_of_canLay0 _ (lay_of _ n2), ?_, hj, ?_⟩
        · have := depth_of (itD (lsI l)); omega
        have D4 : DescAt (upd _ (ptA p2.1 (itP (lsI l))) (.lst (xs.eraseIdx j))) p2.1 (delIt p2.2 (lsI l)) := D3.setPart ndA (del_cols _ _).1 (del_other _ _) (by rw [← ej]; exact g3'.eraseIdx j)
        have N4 := N.set nm2 hp2 (e2.trans e3) (del_cols p2.2 (lsI l)).2 D4
        have e4 : (s.map (·.2)).map (fun x => if x.n = p2.2.n then delIt p2.2 (lsI l) else x) = targL (tbs s) l := hts _ (by rw [hnt, ep2])
        rw [e4] at N4
        exact ⟨_, _, _, _, rfl, N4⟩
    · rintro σ H4 ⟨v3, v4, v5, s3, rfl, N4⟩
      exact ⟨_, rfl, q S2 s3 H4 N4⟩)
theorem ok_changed_schema {f : Addr} {fd : FuncData} (k : Kn K mg "changed_schema" s_changed_schema ["schema", "step"] f fd) (z : Z K mg)
    {g_limit_step_target : Addr} {gd_limit_step_target : FuncData} (c_limit_step_target : Cal P w K mg base 3 "limit_step_target" ["schema", "step"] (spTargL) g_limit_step_target gd_limit_step_target) :
    Cal P w K mg base 4 "changed_schema" ["schema", "step"] (spTargL) f fd := k.cal (by
  obtain ⟨a_COLUMN_KINDS, k_COLUMN_KINDS, q_COLUMN_KINDS⟩ := z.c_COLUMN_KINDS
  obtain ⟨a_TABLE_KINDS, k_TABLE_KINDS, q_TABLE_KINDS⟩ := z.c_TABLE_KINDS
  obtain ⟨a_GROUP_KINDS, k_GROUP_KINDS, q_GROUP_KINDS⟩ := z.c_GROUP_KINDS
  refine k.F.ok sc_changed_schema (fun vs H Q E h => ?_) (fun cdv A outer s H vs Q E hr h => ?_)
  · obtain ⟨S, s, st, l, rfl, _⟩ := h; rfl
  · obtain ⟨S, s, st, l, rfl, B, hT, h1⟩ := h
    refine ⟨_, (pss_cons (ps_set (i := 2) sc_changed_schema.nd rfl (Or.inl rfl) (pe_ix ix_tup (pv 1) pe_int (fun _ _ => rfl)))
        (pss_cons (ps_if (pt_cmpR op_in_seq (pv 2) (pe_glob (v := .ref a_COLUMN_KINDS) rfl k_COLUMN_KINDS rfl) (by rfl)) (pss_one ps_no) pss_nil)
        (pss_cons (ps_if (pt_cmpR op_in_seq (pv 2) (pe_glob (v := .ref a_TABLE_KINDS) rfl k_TABLE_KINDS rfl) (by rfl)) (pss_one ps_no) pss_nil)
        (pss_cons (ps_if (pt_cmpR op_in_seq (pv 2) (pe_glob (v := .ref a_GROUP_KINDS) rfl k_GROUP_KINDS rfl) (by rfl)) (pss_one ps_no) pss_nil)
        (pss_one (ps_ret (pe_call c_limit_step_target.G (hr.mono (by decide)) (by rfl) c_limit_step_target.m c_limit_step_target.kp c_limit_step_target.b .nil pass0 (pa_cons (pv 0) (pa_cons (pv 1) pa_nil))))))))), ?_⟩
    obtain ⟨ys0, hst, rst⟩ := ls_at hT
    refine ⟨_, rfl, st, _, 0, _, rfl, rfl, SqT.of hst, atI_nat (j := 0) rfl, ?_⟩
    refine ⟨_, rfl, a_COLUMN_KINDS, _, rfl, .inr (q_COLUMN_KINDS _), rfl, rfl, _, rfl, ?_⟩
    refine ite2 (fun z => absurd z (by show ¬ inV (.str (lsK l)) _ = true; cases l <;> (simp only [lsK]; decide +kernel))) (fun _ => ?_)
    refine ⟨_, rfl, a_TABLE_KINDS, _, rfl, .inr (q_TABLE_KINDS _), rfl, rfl, _, rfl, ?_⟩
    refine ite2 (fun z => absurd z (by show ¬ inV (.str (lsK l)) _ = true; cases l <;> (simp only [lsK]; decide +kernel))) (fun _ => ?_)
    refine ⟨_, rfl, a_GROUP_KINDS, _, rfl, .inr (q_GROUP_KINDS _), rfl, rfl, _, rfl, ?_⟩
    refine ite2 (fun z => absurd z (by show ¬ inV (.str (lsK l)) _ = true; cases l <;> (simp only [lsK]; decide +kernel))) (fun _ => ?_)
    exact ⟨_, rfl, _, rfl, S, s, st, l, rfl, B, hT, h1⟩)
theorem ok_target_schema {f : Addr} {fd : FuncData} (k : Kn K mg "target_schema" s_target_schema ["schema", "step"] f fd) (z : Z K mg)
    {C_StepError fI_StepError : Addr} {fdI_StepError : FuncData} (e_StepError : ErrK P w K mg base "StepError" "code" "index" C_StepError fI_StepError fdI_StepError)
    {g_step_code : Addr} {gd_step_code : FuncData} (c_step_code : Cal P w K mg base 10 "step_code" ["schema", "step"] (spCode (fun _ => True)) g_step_code gd_step_code)
    {g_changed_schema : Addr} {gd_changed_schema : FuncData} (c_changed_schema : Cal P w K mg base 4 "changed_schema" ["schema", "step"] (spTargL) g_changed_schema gd_changed_schema) :
    CalX P w K mg base 11 "target_schema" ["schema", "step"] (spTarget C_StepError) f fd := k.calX (by
  refine okN k.F sc_target_schema (fun vs H Q E h => ?_) (fun cdv A outer s H vs Q E hr h => ?_)
  · obtain ⟨S, s, st, l, rfl, _⟩ := h; rfl
  · obtain ⟨S, s, st, l, rfl, B, hT, lo, h1, h2⟩ := h
    refine ⟨_, (pss_cons (ps_set (i := 2) sc_target_schema.nd rfl (Or.inl rfl) (pe_call c_step_code.G (hr.mono (by decide)) (by rfl) c_step_code.m c_step_code.kp c_step_code.b .nil pass0 (pa_cons (pv 0) (pa_cons (pv 1) pa_nil))))
        (pss_cons (ps_if (pt_cmpR op_ne (pv 2) pe_str (nomark _)) (pss_one (L2N.ps_raise rfl (L2N.takes_of rfl rfl rfl rfl) (pmk_ownN e_StepError.c.T e_StepError.c.iC e_StepError.c.tI e_StepError.G (hr.mono (by decide)) e_StepError.b pass0 rfl e_StepError.c.gC (by exact (pa_cons (pv 2) (pa_cons pe_int pa_nil)))))) pss_nil)
        (pss_one (ps_ret (pe_call c_changed_schema.G (hr.mono (by decide)) (by rfl) c_changed_schema.m c_changed_schema.kp c_changed_schema.b .nil pass0 (pa_cons (pv 0) (pa_cons (pv 1) pa_nil))))))), ?_⟩
    refine ⟨_, rfl, _, rfl, S, s, st, l, rfl, B, hT, lo, trivial, fun H1 s1 => ?_⟩
    refine ⟨_, rfl, rfl, _, rfl, ?_⟩
    by_cases e : codeL (tbs s) l = ""
    · rw [e]
      refine iteNS rfl ?_
      exact ⟨_, rfl, _, rfl, S, s, st, l, rfl, B.mono s1, hT.mono (KeepT.of s1), lo, e, fun S2 s2 H2 N => h1 e S2 s2 H2 ⟨N.sk, N.ds, N.ts, s1.free N.fS, fun p hp => ⟨s1.free (N.fd p hp).1, (N.fd p hp).2.1, fun b hb => s1.free ((N.fd p hp).2.2 b hb)⟩, N.dn, N.ln, s1.trans N.se⟩⟩
    · refine iteNF (fun z => e (V.str.inj z)) ?_
      refine ⟨_, rfl, (by show 2 ≤ 1000; decide), ?_⟩
      exact raise2 e_StepError.c fun d hd => h2 e H1 d s1 hd)
theorem ok_hot_law_is_integer {f : Addr} {fd : FuncData} (k : Kn K mg "_law_is_integer" s_law_is_integer ["actual"] f fd) (z : Z K mg) :
    CalH P w K mg base 1 "_law_is_integer" ["actual"] (fun vs H Q _ => ∃ i : Int, vs = [.int i] ∧ Q (.bl true) H) f fd := k.calH (by
  refine okH k.F sc_law_is_integer (fun vs H Q E h => ?_) (fun cdv A outer s H vs Q E p hot hr h => ?_)
  · obtain ⟨i, rfl, _⟩ := h; rfl
  · obtain ⟨i, rfl, q⟩ := h
    refine ⟨_, (pss_one (ps_ret (pe_and (pe_callB call_isi (by rfl) z.isinstance (by decide +kernel) (pa_cons (pv 0) (pa_cons (pe_bltn (v := .ty "int") (u := .type "int") (by rfl) z.int (by decide +kernel) rfl) pa_nil))) (pe_one (pe_not (pe_callB call_isi (by rfl) z.isinstance (by decide +kernel) (pa_cons (pv 0) (pa_cons (pe_bltn (v := .ty "bool") (u := .type "bool") (by rfl) z.bool (by decide +kernel) rfl) pa_nil)))))))), ?_⟩
    refine ⟨_, rfl, _, _, _, _, true, rfl, .ty _, .base (.int _), kit_ty (by decide +kernel), _, rfl, ?_⟩
    exact ⟨_, rfl, _, _, _, _, false, rfl, .ty _, .base (.int _), kit_ty (by decide +kernel), _, rfl, q⟩)
theorem ok_hot_law_same {f : Addr} {fd : FuncData} (k : Kn K mg "_law_same" s_law_same ["actual", "expected"] f fd) (z : Z K mg)
    {g_hot_law_is_integer : Addr} {gd_hot_law_is_integer : FuncData} (c_hot_law_is_integer : CalH P w K mg base 1 "_law_is_integer" ["actual"] (fun vs H Q _ => ∃ i : Int, vs = [.int i] ∧ Q (.bl true) H) g_hot_law_is_integer gd_hot_law_is_integer) :
    CalH P w K mg base 2 "_law_same" ["actual", "expected"] (fun vs H Q _ => ∃ i : Int, vs = [.int i, .int i] ∧ Q (.bl true) H) f fd := k.calH (by
  refine okH k.F sc_law_same (fun vs H Q E h => ?_) (fun cdv A outer s H vs Q E p hot hr h => ?_)
  · obtain ⟨i, rfl, _⟩ := h; rfl
  · obtain ⟨i, rfl, q⟩ := h
    refine ⟨_, (pss_cons (ps_if (pt_cmpR op_isN (pv 1) pe_non (nomark _)) (pss_one (ps_ret (pe_cmpR op_isN (pv 0) pe_non (nomark _)))) pss_nil)
        (pss_cons (ps_if (pt_val (pe_callB call_isi (by rfl) z.isinstance (by decide +kernel) (pa_cons (pv 1) (pa_cons (pe_bltn (v := .ty "bool") (u := .type "bool") (by rfl) z.bool (by decide +kernel) rfl) pa_nil)))) (pss_one (ps_ret (pe_and (pe_callB call_isi (by rfl) z.isinstance (by decide +kernel) (pa_cons (pv 0) (pa_cons (pe_bltn (v := .ty "bool") (u := .type "bool") (by rfl) z.bool (by decide +kernel) rfl) pa_nil))) (pe_one (pe_cmpR op_eq (pv 0) (pv 1) (nomark _)))))) pss_nil)
        (pss_cons (ps_if (pt_val (pe_callB call_isi (by rfl) z.isinstance (by decide +kernel) (pa_cons (pv 1) (pa_cons (pe_bltn (v := .ty "int") (u := .type "int") (by rfl) z.int (by decide +kernel) rfl) pa_nil)))) (pss_one (ps_ret (pe_and (L2H.pe_callH (E := fun _ => E0) c_hot_law_is_integer.G (hr.mono (by decide)) (hotp hot) rfl c_hot_law_is_integer.m c_hot_law_is_integer.kp c_hot_law_is_integer.b passN (pa_cons (pv 0) pa_nil)) (pe_one (pe_cmpR op_eq (pv 0) (pv 1) (nomark _)))))) pss_nil)
        (pss_cons ps_no
        (pss_cons ps_no
        (pss_cons ps_no
        (pss_cons ps_no
        (pss_cons ps_no
        (pss_cons ps_no
        (pss_one (ps_ret pe_bl))))))))))), ?_⟩
    refine ⟨_, rfl, rfl, _, rfl, iteDF (fun z => nomatch z) ?_⟩
    refine ⟨_, rfl, _, _, _, _, false, rfl, .ty _, .base (.int _), kit_ty (by decide +kernel), _, rfl, iteF ?_⟩
    refine ⟨_, rfl, _, _, _, _, true, rfl, .ty _, .base (.int _), kit_ty (by decide +kernel), _, rfl, iteT ?_⟩
    exact ⟨_, rfl, i, rfl, _, rfl, iteT ⟨_, rfl, _, rfl, rfl, bl_T rfl q⟩⟩)
theorem ok_law_is_integer {f : Addr} {fd : FuncData} (k : Kn K mg "_law_is_integer" s_law_is_integer ["actual"] f fd) (z : Z K mg) :
    Cal P w K mg base 1 "_law_is_integer" ["actual"] (spIsInt) f fd := k.cal (by
  refine k.F.ok sc_law_is_integer (fun vs H Q E h => ?_) (fun cdv A outer s H vs Q E hr h => ?_)
  · obtain ⟨x, rfl, _⟩ := h; rfl
  · obtain ⟨x, rfl, hx, q⟩ := h
    refine ⟨_, (pss_one (ps_ret (pe_and (pe_callB call_isi (by rfl) z.isinstance (by decide +kernel) (pa_cons (pv 0) (pa_cons (pe_bltn (v := .ty "int") (u := .type "int") (by rfl) z.int (by decide +kernel) rfl) pa_nil))) (pe_one (pe_not (pe_callB call_isi (by rfl) z.isinstance (by decide +kernel) (pa_cons (pv 0) (pa_cons (pe_bltn (v := .ty "bool") (u := .type "bool") (by rfl) z.bool (by decide +kernel) rfl) pa_nil)))))))), ?_⟩
    obtain ⟨t, hT, c⟩ := ty_scal (K := K) (H := H) hx
    rcases c with ⟨rfl, rfl⟩ | ⟨⟨b, rfl⟩, rfl⟩ | ⟨⟨i, rfl⟩, rfl⟩ | ⟨⟨y, rfl⟩, rfl⟩
    · exact ⟨_, rfl, _, _, _, _, false, rfl, .ty _, hT, kit_ty (by decide +kernel), ⟨_, rfl, q⟩⟩
    · exact ⟨_, rfl, _, _, _, _, true, rfl, .ty _, hT, kit_ty (by decide +kernel), ⟨_, rfl, ⟨_, rfl, _, _, _, _, true, rfl, .ty _, hT, kit_ty (by decide +kernel), ⟨_, rfl, q⟩⟩⟩⟩
    · exact ⟨_, rfl, _, _, _, _, true, rfl, .ty _, hT, kit_ty (by decide +kernel), ⟨_, rfl, ⟨_, rfl, _, _, _, _, false, rfl, .ty _, hT, kit_ty (by decide +kernel), ⟨_, rfl, q⟩⟩⟩⟩
    · exact ⟨_, rfl, _, _, _, _, false, rfl, .ty _, hT, kit_ty (by decide +kernel), ⟨_, rfl, q⟩⟩)

theorem no_same {f : Addr} {fd : FuncData} : FnOk P w K mg base CX0 0 f fd ["actual", "expected"] (spSameG 0) := by
  have no : ∀ vs H Q E, ¬ spSameG 0 vs H Q E := fun vs H Q E h => by
    obtain ⟨x, y, g, D, E', _, _, _, _, h1, _⟩ := h
    exact Nat.not_lt_zero _ h1
  exact ⟨fun vs H Q E h => absurd h (no vs H Q E), fun A outer s H args us vs Q E _ _ _ _ h => absurd h (no vs H Q E)⟩
theorem ok_items {n : Nat} {f g : Addr} {fd gd : FuncData} (k : Kn K mg "_law_same_items" s_law_same_items ["actual", "expected"] f fd) (z : Z K mg)
    (c_law_same : Cal P w K mg base (2 * n) "_law_same" ["actual", "expected"] (spSameG n) g gd) : Cal P w K mg base (2 * n + 1) "_law_same_items" ["actual", "expected"] (spItemsG n) f fd := k.cal (by
  refine k.F.ok sc_law_same_items (fun vs H Q E h => ?_) (fun cdv A outer s H vs Q E hr h => ?_)
  · obtain ⟨a, b, xs, ys, gs, D, E', rfl, _⟩ := h; rfl
  · obtain ⟨a, b, xs, ys, gs, D, E', rfl, hk, h1, rx, ry, hdis, hdep, q⟩ := h
    have A1 : SqL K H a xs ∨ SqT K H a xs := by rcases hk with hk | hk; exact .inl (SqL.of hk.1); exact .inr (SqT.of hk.1)
    have B1 : SqL K H b ys ∨ SqT K H b ys := by rcases hk with hk | hk; exact .inl (SqL.of hk.2); exact .inr (SqT.of hk.2)
    have hl : xs.length = ys.length := by rw [rx.length, ry.length]
    refine ⟨_, (pss_cons (ps_if (pt_cmpR op_ne (pe_callB call_len_seq (by rfl) z.len (by decide +kernel) (pa_cons (pv 0) pa_nil)) (pe_callB call_len_seq (by rfl) z.len (by decide +kernel) (pa_cons (pv 1) pa_nil)) (nomark _)) (pss_one (ps_ret pe_bl)) pss_nil)
    (pss_cons (ps_for PassesOwn.never rfl (pi_range1 (by rfl) z.range (pa_cons (pe_callB call_len_seq (by rfl) z.len (by decide +kernel) (pa_cons (pv 1) pa_nil)) pa_nil)) (pg_name (i := 2) sc_law_same_items.nd rfl (Or.inl rfl))
    (pss_one (ps_if (pt_not (pt_val (pe_call c_law_same.G (hr.mono (by omega)) (by rfl) c_law_same.m c_law_same.kp c_law_same.b .nil pass0 (pa_cons (pe_ix ix_seq (pv 0) (pv 2) (fun _ _ => rfl)) (pa_cons (pe_ix ix_seq (pv 1) (pv 2) (fun _ _ => rfl)) pa_nil))))) (pss_one (ps_ret pe_bl)) pss_nil)))
    (pss_one (ps_ret pe_bl)))), ?_⟩
    refine ⟨_, rfl, a, _, rfl, A1, _, rfl, b, _, rfl, B1, rfl, _, rfl, ?_⟩
    refine iteNS (by rw [hl]) ?_
    refine ⟨_, rfl, b, _, rfl, B1, _, rfl, (by omega), (by omega), for_range (lo := 0) (n := ys.length) (fun i σ H2 => (∃ v, σ = [some (.ref a), some (.ref b), v]) ∧ H2 = H) ⟨⟨none, rfl⟩, rfl⟩ ?_ ?_⟩
    · rintro i σ H2 hi ⟨⟨v, rfl⟩, rfl⟩
      have hx : xs[i]? = some xs[i] := List.getElem?_eq_getElem (by omega)
      have hy : ys[i]? = some ys[i] := List.getElem?_eq_getElem hi
      obtain ⟨g1, E1, e1, p1, i1⟩ := rx.get hx
      obtain ⟨g2, E2, e2, p2, i2⟩ := ry.get hy
      rw [e1] at e2
      cases e2
      refine ⟨_, rfl, _, rfl, ixq A1 (at_of (by omega) hx) ⟨_, rfl, _, rfl, ixq B1 (at_of (by omega) hy) ⟨_, _, g1, E1, E2, rfl, p1, p2, fun a ha hb => hdis a (i1 a ha) (i2 a hb), hdep g1 (List.mem_of_getElem? e1), ⟨_, rfl, ?_⟩⟩⟩⟩
      exact iteF ⟨⟨_, rfl⟩, rfl⟩
    · rintro σ H2 ⟨⟨v, rfl⟩, rfl⟩
      exact q)
theorem ok_same {n : Nat} {f g i : Addr} {fd gd ii : FuncData} (k : Kn K mg "_law_same" s_law_same ["actual", "expected"] f fd) (z : Z K mg)
    (c_law_same : Cal P w K mg base (2 * n) "_law_same" ["actual", "expected"] (spSameG n) f fd)
    (c_law_is_integer : Cal P w K mg base 1 "_law_is_integer" ["actual"] spIsInt i ii)
    (c_law_same_items : Cal P w K mg base (2 * n + 1) "_law_same_items" ["actual", "expected"] (spItemsG n) g gd) : Cal P w K mg base (2 * n + 2) "_law_same" ["actual", "expected"] (spSameG (n + 1)) f fd := k.cal (by
  refine k.F.ok sc_law_same (fun vs H Q E h => ?_) (fun cdv A outer s H vs Q E hr h => ?_)
  · obtain ⟨x, y, g, D, E', rfl, _⟩ := h; rfl
  · obtain ⟨x, y, g, D, E', rfl, hx, hy, hdis, hdep, q⟩ := h
    have hu := hu_of hr
    refine ⟨_, (pss_cons (ps_if (pt_cmpR op_isN (pv 1) pe_non (nomark _)) (pss_one (ps_ret (pe_cmpR op_isN (pv 0) pe_non (nomark _)))) pss_nil)
    (pss_cons (ps_if (pt_val (pe_callB call_isi (by rfl) z.isinstance (by decide +kernel) (pa_cons (pv 1) (pa_cons (pe_bltn (v := .ty "bool") (u := .type "bool") (by rfl) z.bool (by decide +kernel) rfl) pa_nil)))) (pss_one (ps_ret (pe_and (pe_callB call_isi (by rfl) z.isinstance (by decide +kernel) (pa_cons (pv 0) (pa_cons (pe_bltn (v := .ty "bool") (u := .type "bool") (by rfl) z.bool (by decide +kernel) rfl) pa_nil))) (pe_one (pe_cmpR op_eq (pv 0) (pv 1) (nomark _)))))) pss_nil)
    (pss_cons (ps_if (pt_val (pe_callB call_isi (by rfl) z.isinstance (by decide +kernel) (pa_cons (pv 1) (pa_cons (pe_bltn (v := .ty "int") (u := .type "int") (by rfl) z.int (by decide +kernel) rfl) pa_nil)))) (pss_one (ps_ret (pe_and (pe_call c_law_is_integer.G (hr.mono (by omega)) (by rfl) c_law_is_integer.m c_law_is_integer.kp c_law_is_integer.b .nil pass0 (pa_cons (pv 0) pa_nil)) (pe_one (pe_cmpR op_eq (pv 0) (pv 1) (nomark _)))))) pss_nil)
    (pss_cons (ps_if (pt_val (pe_callB call_isi (by rfl) z.isinstance (by decide +kernel) (pa_cons (pv 1) (pa_cons (pe_bltn (v := .ty "str") (u := .type "str") (by rfl) z.str (by decide +kernel) rfl) pa_nil)))) (pss_one (ps_ret (pe_and (pe_callB call_isi (by rfl) z.isinstance (by decide +kernel) (pa_cons (pv 0) (pa_cons (pe_bltn (v := .ty "str") (u := .type "str") (by rfl) z.str (by decide +kernel) rfl) pa_nil))) (pe_one (pe_cmpR op_eq (pv 0) (pv 1) (nomark _)))))) pss_nil)
    (pss_cons (ps_if (pt_val (pe_callB call_isi (by rfl) z.isinstance (by decide +kernel) (pa_cons (pv 1) (pa_cons (pe_bltn (v := .ty "tuple") (u := .type "tuple") (by rfl) z.tuple (by decide +kernel) rfl) pa_nil)))) (pss_one (ps_ret (pe_and (pe_callB call_isi (by rfl) z.isinstance (by decide +kernel) (pa_cons (pv 0) (pa_cons (pe_bltn (v := .ty "tuple") (u := .type "tuple") (by rfl) z.tuple (by decide +kernel) rfl) pa_nil))) (pe_one (pe_call c_law_same_items.G (hr.mono (by omega)) (by rfl) c_law_same_items.m c_law_same_items.kp c_law_same_items.b .nil pass0 (pa_cons (pv 0) (pa_cons (pv 1) pa_nil))))))) pss_nil)
    (pss_cons (ps_if (pt_val (pe_callB call_isi (by rfl) z.isinstance (by decide +kernel) (pa_cons (pv 1) (pa_cons (pe_bltn (v := .ty "list") (u := .type "list") (by rfl) z.list (by decide +kernel) rfl) pa_nil)))) (pss_one (ps_ret (pe_and (pe_callB call_isi (by rfl) z.isinstance (by decide +kernel) (pa_cons (pv 0) (pa_cons (pe_bltn (v := .ty "list") (u := .type "list") (by rfl) z.list (by decide +kernel) rfl) pa_nil))) (pe_one (pe_call c_law_same_items.G (hr.mono (by omega)) (by rfl) c_law_same_items.m c_law_same_items.kp c_law_same_items.b .nil pass0 (pa_cons (pv 0) (pa_cons (pv 1) pa_nil))))))) pss_nil)
    (pss_cons (ps_if (PW.pt (pw_or (pt_not (pt_val (pe_callB call_isi (by rfl) z.isinstance (by decide +kernel) (pa_cons (pv 0) (pa_cons (pe_bltn (v := .ty "dict") (u := .type "dict") (by rfl) z.dict (by decide +kernel) rfl) pa_nil))))) (pw_or1 (pt_cmpR op_ne (pe_callB call_lenD (by rfl) z.len (by decide +kernel) (pa_cons (pv 0) pa_nil)) (pe_callB call_lenD (by rfl) z.len (by decide +kernel) (pa_cons (pv 1) pa_nil)) (nomark _))))) (pss_one (ps_ret pe_bl)) pss_nil)
    (pss_cons (ps_lock (ps_for PassesOwn.never rfl (pi_keys (pv 1)) (pg_name (i := 2) sc_law_same.nd rfl (Or.inl rfl))
    (pss_one (ps_if (PW.pt (pw_or (pt_cmp (pc_dnotin hu (pv 2) (pv 0))) (pw_or1 (pt_not (pt_val (pe_call c_law_same.G (hr.mono (by omega)) (by rfl) c_law_same.m c_law_same.kp c_law_same.b .nil pass0 (pa_cons (pe_dget hu (pv 0) (pv 2) (fun _ _ => rfl)) (pa_cons (pe_dget hu (pv 1) (pv 2) (fun _ _ => rfl)) pa_nil)))))))) (pss_one (ps_ret pe_bl)) pss_nil))))
    (pss_cons (ps_lock (ps_for PassesOwn.never rfl (pi_keys (pv 0)) (pg_name (i := 2) sc_law_same.nd rfl (Or.inl rfl))
    (pss_one (ps_if (pt_val (pe_callB call_isi (by rfl) z.isinstance (by decide +kernel) (pa_cons (pv 2) (pa_cons (pe_bltn (v := .ty "bool") (u := .type "bool") (by rfl) z.bool (by decide +kernel) rfl) pa_nil)))) (pss_one (ps_ret pe_bl)) pss_nil))))
    (pss_one (ps_ret pe_bl))))))))))), ?_⟩
    cases hx with
    | @s v hs =>
      cases hy with
      | s _ =>
      obtain ⟨t, hT, c⟩ := ty_scal (K := K) (H := H) hs
      rcases c with ⟨rfl, rfl⟩ | ⟨⟨b, rfl⟩, rfl⟩ | ⟨⟨i, rfl⟩, rfl⟩ | ⟨⟨y, rfl⟩, rfl⟩
      · exact ⟨_, rfl, rfl, _, rfl, iteDT rfl ⟨_, rfl, rfl, bl_T rfl q⟩⟩
      · refine ⟨_, rfl, rfl, _, rfl, iteDF (fun e => nomatch e) ⟨_, rfl, _, _, _, _, true, rfl, .ty _, hT, kit_ty (by decide +kernel), ⟨_, rfl, ?_⟩⟩⟩
        exact ⟨_, rfl, _, _, _, _, true, rfl, .ty _, hT, kit_ty (by decide +kernel), ⟨_, rfl, ⟨_, rfl, _, rfl, rfl, bl_T rfl q⟩⟩⟩
      · refine ⟨_, rfl, rfl, _, rfl, iteDF (fun e => nomatch e) ⟨_, rfl, _, _, _, _, false, rfl, .ty _, hT, kit_ty (by decide +kernel), ⟨_, rfl, ?_⟩⟩⟩
        refine ⟨_, rfl, _, _, _, _, true, rfl, .ty _, hT, kit_ty (by decide +kernel), ⟨_, rfl, ?_⟩⟩
        exact ⟨_, rfl, _, rfl, rfl, ⟨_, rfl, ⟨_, rfl, _, rfl, rfl, bl_T rfl q⟩⟩⟩
      · refine ⟨_, rfl, rfl, _, rfl, iteDF (fun e => nomatch e) ⟨_, rfl, _, _, _, _, false, rfl, .ty _, hT, kit_ty (by decide +kernel), ⟨_, rfl, ?_⟩⟩⟩
        refine ⟨_, rfl, _, _, _, _, false, rfl, .ty _, hT, kit_ty (by decide +kernel), ⟨_, rfl, ?_⟩⟩
        refine ⟨_, rfl, _, _, _, _, true, rfl, .ty _, hT, kit_ty (by decide +kernel), ⟨_, rfl, ?_⟩⟩
        exact ⟨_, rfl, _, _, _, _, true, rfl, .ty _, hT, kit_ty (by decide +kernel), ⟨_, rfl, ⟨_, rfl, _, rfl, rfl, bl_T rfl q⟩⟩⟩
    | @l a xs gs D hxa hn rx =>
      cases hy with
      | @l b ys _ E hyb hm ry =>
      have hA : TyX K H (.ref a) (.type "list") := .base (.lst hxa)
      have hB : TyX K H (.ref b) (.type "list") := .base (.lst hyb)
      have hd : ∀ g ∈ gs, g.dep < n := fun g hg => by have := depL_mem hg; simp only [G.dep] at hdep; omega
      refine ⟨_, rfl, rfl, _, rfl, iteDF (fun e => nomatch e) ⟨_, rfl, _, _, _, _, false, rfl, .ty _, hB, kit_ty (by decide +kernel), ⟨_, rfl, ?_⟩⟩⟩
      refine ⟨_, rfl, _, _, _, _, false, rfl, .ty _, hB, kit_ty (by decide +kernel), ⟨_, rfl, ?_⟩⟩
      refine ⟨_, rfl, _, _, _, _, false, rfl, .ty _, hB, kit_ty (by decide +kernel), ⟨_, rfl, ?_⟩⟩
      refine ⟨_, rfl, _, _, _, _, false, rfl, .ty _, hB, kit_ty (by decide +kernel), ⟨_, rfl, ?_⟩⟩
      refine ⟨_, rfl, _, _, _, _, true, rfl, .ty _, hB, kit_ty (by decide +kernel), ⟨_, rfl, ?_⟩⟩
      exact ⟨_, rfl, _, _, _, _, true, rfl, .ty _, hA, kit_ty (by decide +kernel), ⟨_, rfl, ⟨_, rfl, _, rfl, a, b, xs, ys, gs, D, E, rfl, .inl ⟨hxa, hyb⟩, hn, rx, ry, fun c h1 h2 => hdis c (List.mem_cons_of_mem _ h1) (List.mem_cons_of_mem _ h2), hd, q⟩⟩⟩
    | @t a xs gs D hxa hn rx =>
      cases hy with
      | @t b ys _ E hyb hm ry =>
      have hA : TyX K H (.ref a) (.type "tuple") := .base (.tup hxa)
      have hB : TyX K H (.ref b) (.type "tuple") := .base (.tup hyb)
      have hd : ∀ g ∈ gs, g.dep < n := fun g hg => by have := depL_mem hg; simp only [G.dep] at hdep; omega
      refine ⟨_, rfl, rfl, _, rfl, iteDF (fun e => nomatch e) ⟨_, rfl, _, _, _, _, false, rfl, .ty _, hB, kit_ty (by decide +kernel), ⟨_, rfl, ?_⟩⟩⟩
      refine ⟨_, rfl, _, _, _, _, false, rfl, .ty _, hB, kit_ty (by decide +kernel), ⟨_, rfl, ?_⟩⟩
      refine ⟨_, rfl, _, _, _, _, false, rfl, .ty _, hB, kit_ty (by decide +kernel), ⟨_, rfl, ?_⟩⟩
      refine ⟨_, rfl, _, _, _, _, true, rfl, .ty _, hB, kit_ty (by decide +kernel), ⟨_, rfl, ?_⟩⟩
      exact ⟨_, rfl, _, _, _, _, true, rfl, .ty _, hA, kit_ty (by decide +kernel), ⟨_, rfl, ⟨_, rfl, _, rfl, a, b, xs, ys, gs, _, _, rfl, .inr ⟨hxa, hyb⟩, hn, rx, ry, hdis, hd, q⟩⟩⟩
    | @d a kvs kgs D hxa hn nd rx fx =>
      cases hy with
      | @d b kws _ E hyb hm nd2 ry fy =>
      have hA : TyX K H (.ref a) (.type "dict") := .base (.dK hxa)
      have hB : TyX K H (.ref b) (.type "dict") := .base (.dK hyb)
      have hd : ∀ (k : Key) (g : G), (k, g) ∈ kgs → g.dep < n := fun k g hg => by have := depK_mem hg; simp only [G.dep] at hdep; omega
      have hab : a ≠ b := fun e => by subst e; exact hdis a List.mem_cons_self List.mem_cons_self
      have hbD : b ∉ D := fun h => hdis b (List.mem_cons_of_mem _ h) List.mem_cons_self
      have hkeys : kvs.map (·.1) = kws.map (·.1) := by rw [rx.keys, ry.keys]
      have hlen : kvs.length = kws.length := by have := congrArg List.length hkeys; simpa using this
      refine ⟨_, rfl, rfl, _, rfl, iteDF (fun e => nomatch e) ⟨_, rfl, _, _, _, _, false, rfl, .ty _, hB, kit_ty (by decide +kernel), ⟨_, rfl, ?_⟩⟩⟩
      refine ⟨_, rfl, _, _, _, _, false, rfl, .ty _, hB, kit_ty (by decide +kernel), ⟨_, rfl, ?_⟩⟩
      refine ⟨_, rfl, _, _, _, _, false, rfl, .ty _, hB, kit_ty (by decide +kernel), ⟨_, rfl, ?_⟩⟩
      refine ⟨_, rfl, _, _, _, _, false, rfl, .ty _, hB, kit_ty (by decide +kernel), ⟨_, rfl, ?_⟩⟩
      refine ⟨_, rfl, _, _, _, _, false, rfl, .ty _, hB, kit_ty (by decide +kernel), ⟨_, rfl, ?_⟩⟩
      refine ⟨_, rfl, _, _, _, _, true, rfl, .ty _, hA, kit_ty (by decide +kernel), ⟨_, rfl, ?_⟩⟩
      refine ⟨_, rfl, a, kvs, rfl, hxa, _, rfl, b, kws, rfl, hyb, rfl, _, rfl, ?_⟩
      refine iteNS (by rw [hlen]) ?_
      refine ⟨b, .dK kws, hyb, True.intro, fun od => ?_⟩
      have hLa : (upd H b (.frz od (.dK kws))) a = some (.dK kvs) := by rw [upd_ne hab]; exact hxa
      refine ⟨_, rfl, b, od, rfl, .inl ⟨kws, upd_same, for_it walk_keys (fun i σ H2 => (∃ v, σ = [some (.ref a), some (.ref b), v]) ∧ H2 = upd H b (.frz od (.dK kws))) ⟨⟨none, rfl⟩, rfl⟩ (fun i σ H2 _ hh => by rw [hh.2]; exact upd_same) ?_ ?_⟩⟩
      · rintro i x σ H2 H2' hi ⟨⟨v, rfl⟩, rfl⟩ ⟨rfl, key, wv, ek, rfl⟩
        have eki : (kvs.map (·.1))[i]? = some key := by rw [hkeys, List.getElem?_map, ek]; rfl
        obtain ⟨vv, evv⟩ : ∃ vv, kvs[i]? = some (key, vv) := by
          rw [List.getElem?_map] at eki
          cases e : kvs[i]? with
          | none => rw [e] at eki; cases eki
          | some p => rw [e] at eki; obtain ⟨p1, p2⟩ := p; cases eki; exact ⟨p2, rfl⟩
        have ga : DGet (upd H b (.frz od (.dK kws))) a (kV key) (some vv) := by
          have g := DGet.k (k := key) hLa
          rw [valV_at nd evv] at g
          exact g
        have gb : DGet (upd H b (.frz od (.dK kws))) b (kV key) (some wv) := .inl ⟨kws, key, .inr ⟨od, upd_same⟩, rfl, (valV_at nd2 ek).symm⟩
        obtain ⟨g1, D1, e1, p1, i1⟩ := rx.get evv
        obtain ⟨g2, E1, e2, p2, i2⟩ := ry.get ek
        rw [e1] at e2
        cases e2
        refine ⟨_, rfl, _, rfl, a, _, rfl, ga, _, rfl, ?_⟩
        refine iteF ⟨_, rfl, _, rfl, a, vv, rfl, ga, _, rfl, _, rfl, b, wv, rfl, gb, vv, wv, g1, D1, E1, rfl, p1.locked hyb (fun h => hbD (i1 b h)), p2.locked hyb (fun h => fy (i2 b h)), fun c h1 h2 => hdis c (List.mem_cons_of_mem _ (i1 c h1)) (List.mem_cons_of_mem _ (i2 c h2)), hd _ _ (List.mem_of_getElem? e1), _, rfl, ?_⟩
        exact iteF ⟨⟨_, rfl⟩, rfl⟩
      · rintro σ H2 ⟨⟨v, rfl⟩, rfl⟩
        refine ⟨upd_same, ?_⟩
        rw [upd_upd, upd_self hyb]
        refine ⟨a, .dK kvs, hxa, True.intro, fun oe => ?_⟩
        refine ⟨_, rfl, a, oe, rfl, .inl ⟨kvs, upd_same, for_it walk_keys (fun i σ H2 => (∃ v, σ = [some (.ref a), some (.ref b), v]) ∧ H2 = upd H a (.frz oe (.dK kvs))) ⟨⟨v, rfl⟩, rfl⟩ (fun i σ H2 _ hh => by rw [hh.2]; exact upd_same) ?_ ?_⟩⟩
        · rintro i x σ H2 H2' hi ⟨⟨v, rfl⟩, rfl⟩ ⟨rfl, key, wv, ek, rfl⟩
          cases key with
          | inl i0 => exact ⟨_, rfl, _, _, _, _, false, rfl, .ty _, .base (.int _), kit_ty (by decide +kernel), _, rfl, ⟨_, rfl⟩, rfl⟩
          | inr s0 => exact ⟨_, rfl, _, _, _, _, false, rfl, .ty _, .base (.str _), kit_ty (by decide +kernel), _, rfl, ⟨_, rfl⟩, rfl⟩
        · rintro σ H2 ⟨⟨v, rfl⟩, rfl⟩
          refine ⟨upd_same, ?_⟩
          rw [upd_upd, upd_self hxa]
          exact q)
theorem ok_law_same {f g i : Addr} {fd gd ii : FuncData} (k : Kn K mg "_law_same" s_law_same ["actual", "expected"] f fd) (kI : Kn K mg "_law_same_items" s_law_same_items ["actual", "expected"] g gd) (z : Z K mg)
    (c_law_is_integer : Cal P w K mg base 1 "_law_is_integer" ["actual"] spIsInt i ii) : ∀ n : Nat, Cal P w K mg base (2 * n) "_law_same" ["actual", "expected"] (spSameG n) f fd
  | 0 => k.cal no_same
  | n + 1 => by
    have h := ok_law_same k kI z c_law_is_integer n
    exact ok_same k z h c_law_is_integer (ok_items kI z h)
theorem ok_law {f : Addr} {fd : FuncData} (k : Kn K mg "law" s_law ["script"] f fd) (z : Z K mg)
    {C_StepError fI_StepError : Addr} {fdI_StepError : FuncData} (e_StepError : ErrK P w K mg base "StepError" "code" "index" C_StepError fI_StepError fdI_StepError)
    {g_law_tape : Addr} {gd_law_tape : FuncData} (c_law_tape : Cal P w K mg base 1 "_law_tape" ["script"] (spTape K) g_law_tape gd_law_tape)
    {g_law_schema : Addr} {gd_law_schema : FuncData} (c_law_schema : Cal P w K mg base 8 "_law_schema" ["tape", "least", "most"] (spSchema) g_law_schema gd_law_schema)
    {g_law_take : Addr} {gd_law_take : FuncData} (c_law_take : Cal P w K mg base 1 "_law_take" ["tape", "many"] (spTake) g_law_take gd_law_take)
    {g_law_step : Addr} {gd_law_step : FuncData} (c_law_step : Cal P w K mg base 8 "_law_step" ["tape", "schema", "kinds"] (spLimStep) g_law_step gd_law_step)
    {g_law_copy : Addr} {gd_law_copy : FuncData} (c_law_copy : Cal P w K mg base 9 "_law_copy" ["thing"] (spCopyG 9) g_law_copy gd_law_copy)
    {g_law_expected : Addr} {gd_law_expected : FuncData} (c_law_expected : Cal P w K mg base 10 "_law_expected" ["schema", "step"] (spExpected) g_law_expected gd_law_expected)
    {g_target_schema : Addr} {gd_target_schema : FuncData} (c_target_schema : CalX P w K mg base 11 "target_schema" ["schema", "step"] (spTarget C_StepError) g_target_schema gd_target_schema)
    {g_hot_law_same : Addr} {gd_hot_law_same : FuncData} (c_hot_law_same : CalH P w K mg base 2 "_law_same" ["actual", "expected"] (fun vs H Q _ => ∃ i : Int, vs = [.int i, .int i] ∧ Q (.bl true) H) g_hot_law_same gd_hot_law_same)
    {g_law_same : Addr} {gd_law_same : FuncData} (c_law_same : Cal P w K mg base 18 "_law_same" ["actual", "expected"] (spSameG 9) g_law_same gd_law_same) :
    Cal P w K mg base 19 "law" ["script"] (spLaw K) f fd := k.cal (by
  refine k.F.ok sc_law (fun vs H Q E h => ?_) (fun cdv A outer s H vs Q E hr h => ?_)
  · obtain ⟨a, ns, rfl, _⟩ := h; rfl
  · obtain ⟨a, ns, rfl, hS, h63, q⟩ := h
    have hu := hu_of hr
    refine ⟨_, (pss_cons (ps_set (i := 1) sc_law.nd rfl (Or.inl rfl) (pe_call c_law_tape.G (hr.mono (by decide)) (by rfl) c_law_tape.m c_law_tape.kp c_law_tape.b .nil pass0 (pa_cons (pv 0) pa_nil)))
        (pss_cons (ps_set (i := 2) sc_law.nd rfl (Or.inl rfl) (pe_call c_law_schema.G (hr.mono (by decide)) (by rfl) c_law_schema.m c_law_schema.kp c_law_schema.b .nil pass0 (pa_cons (pv 1) (pa_cons pe_int (pa_cons pe_int pa_nil)))))
        (pss_cons (ps_set (i := 3) sc_law.nd rfl (Or.inl rfl) (pe_lst (pa_cons pe_str (pa_cons pe_str (pa_cons pe_str (pa_cons pe_str (pa_cons pe_str (pa_cons pe_str pa_nil))))))))
        (pss_cons (ps_set (i := 4) sc_law.nd rfl (Or.inl rfl) pe_non)
        (pss_cons (ps_for PassesOwn.never rfl (pi_range1 (by rfl) z.range (pa_cons pe_int pa_nil)) (pg_name (i := 5) sc_law.nd rfl (Or.inl rfl))
        (pss_cut (ps_if (PW.pt (pw_or (pt_cmpR op_isN (pv 4) pe_non (nomark _)) (pw_or1 (pt_cmpR op_gt (pe_call c_law_take.G (hr.mono (by decide)) (by rfl) c_law_take.m c_law_take.kp c_law_take.b .nil pass0 (pa_cons (pv 1) (pa_cons pe_int pa_nil))) pe_int (nomark _))))) (pss_one (ps_set (i := 4) sc_law.nd rfl (Or.inl rfl) (pe_call c_law_step.G (hr.mono (by decide)) (by rfl) c_law_step.m c_law_step.kp c_law_step.b .nil pass0 (pa_cons (pv 1) (pa_cons (pv 2) (pa_cons (pv 3) pa_nil)))))) pss_nil)
        (pss_cons (ps_set (i := 6) sc_law.nd rfl (Or.inl rfl) (pe_call c_law_copy.G (hr.mono (by decide)) (by rfl) c_law_copy.m c_law_copy.kp c_law_copy.b .nil pass0 (pa_cons (pv 2) pa_nil)))
        (pss_cons (ps_set (i := 7) sc_law.nd rfl (Or.inl rfl) (pe_call c_law_expected.G (hr.mono (by decide)) (by rfl) c_law_expected.m c_law_expected.kp c_law_expected.b .nil pass0 (pa_cons (pv 2) (pa_cons (pv 4) pa_nil))))
        (pss_cons (ps_set (i := 8) sc_law.nd rfl (Or.inl rfl) (pe_tup (pa_cons pe_non (pa_cons pe_str pa_nil))))
        (pss_cons (L2N.ps_try_as (i := 9) (Wout := fun _ _ _ _ => False) rfl rfl sc_law.nd rfl rfl ⟨rfl, by decide, Or.inl e_StepError.c.gC⟩ takes0N (fun W pn xe tk _ => (pss_one (ps_set (i := 8) sc_law.nd rfl (Or.inl rfl) (pe_tup (pa_cons (pe_callS (E := WE W) c_target_schema.G (hr.mono (by decide)) (by rfl) c_target_schema.m c_target_schema.kp c_target_schema.b (fun σ => L2N.passAt tk σ) (pa_cons (pv 2) (pa_cons (pv 4) pa_nil))) (pa_cons pe_str pa_nil))))))
        (fun a oe cls d pn hz hf => (pss_cons (ps_if (pt_not (pt_val (L2H.pe_callH (E := fun _ => E0) c_hot_law_same.G (L2H.roomH_mark (hr.mono (by decide)) _) (hotc hz hf) rfl c_hot_law_same.m c_hot_law_same.kp c_hot_law_same.b passN (pa_cons (pe_xf e_StepError.c.xf e_StepError.c.n2 hz.zc hf (pv 9)) (pa_cons pe_int pa_nil))))) (pss_one (ps_ret pe_bl)) pss_nil)
        (pss_one (ps_set (i := 8) sc_law.nd rfl (Or.inl rfl) (pe_tup (pa_cons pe_non (pa_cons (pe_xf e_StepError.c.xf e_StepError.c.n1 hz.zc hf (pv 9)) pa_nil))))))))
        (pss_cons (ps_if (PW.pt (pw_or (pt_not (pt_val (pe_call c_law_same.G (hr.mono (by decide)) (by rfl) c_law_same.m c_law_same.kp c_law_same.b .nil pass0 (pa_cons (pv 8) (pa_cons (pv 7) pa_nil))))) (pw_or1 (pt_not (pt_val (pe_call c_law_same.G (hr.mono (by decide)) (by rfl) c_law_same.m c_law_same.kp c_law_same.b .nil pass0 (pa_cons (pv 2) (pa_cons (pv 6) pa_nil)))))))) (pss_one (ps_ret pe_bl)) pss_nil)
        (pss_one (ps_if (pt_cmpR op_notN (pe_ix ix_tup (pv 7) pe_int (fun _ _ => rfl)) pe_non (nomark _)) (pss_one (ps_set (i := 2) sc_law.nd rfl (Or.inl rfl) (pe_ix ix_tup (pv 7) pe_int (fun _ _ => rfl)))) pss_nil)))))))))
        (pss_one (ps_ret pe_bl))))))), ?_⟩
    refine ⟨_, rfl, a, ns, rfl, hS, h63, fun t c cs H1 T1 s1 _ => ?_⟩
    refine ⟨_, rfl, t, c, cs, 1, 4, rfl, T1, by decide, by decide, by decide, fun S s H2 A ok ls0 ls4 T2 s2 => ?_⟩
    refine ⟨(by show 6 ≤ sizeLine; decide), fun L hL => ?_⟩
    have e3 := same_new hL (.lst (kinds6.map V.str))
    have A3 := A.monoX T2 (SameX.of e3)
    have T3 := T2.mono e3
    refine ⟨5, rfl, by decide, by decide, for_range (lo := 0) (n := 5) (fun i σ H' => ∃ S s sv v5 v6 v7 v8 v9, σ = [some (.ref a), some (.ref t), some (.ref S), some (.ref L), some sv, v5, v6, v7, v8, v9] ∧ SchAt H' S s t c ∧ (∀ p ∈ s, TabV p.2) ∧ s.length ≤ 6 ∧ H' L = some (.lst (kinds6.map V.str)) ∧ TapeAt H' t c cs ∧ (sv = .non ∨ ∃ st l, sv = .ref st ∧ Tp H' (.ref st) (lsD l) ∧ lsOk l)) ⟨S, s, .non, _, _, _, _, _, rfl, A3, (A3.v ok (by omega)).ok, by omega, upd_same, T3, .inl rfl⟩ ?_ ?_⟩
    · rintro i σ H4 hi ⟨S, s, sv, v5, v6, v7, v8, v9, rfl, A, ok, l6, hL, T, hsv⟩
      have hLt := T.notL hL
      refine ⟨fun σ H' => ∃ v5 st l, σ = [some (.ref a), some (.ref t), some (.ref S), some (.ref L), some (.ref st), v5, v6, v7, v8, v9] ∧ Tp H' (.ref st) (lsD l) ∧ lsOk l ∧ SchAt H' S s t c ∧ H' L = some (.lst (kinds6.map V.str)) ∧ TapeAt H' t c cs, ?_, ?_⟩
      · rcases hsv with rfl | ⟨st, l, rfl, hT, lo⟩
        · exact ⟨_, rfl, rfl, _, rfl, iteDT rfl (iteT ⟨_, rfl, _, rfl, _, rfl, t, c, S, L, cs, s, rfl, T, A, ok, l6, hL, fun st l H5 hT lo T5 x5 => ⟨_, st, l, rfl, hT, lo, A.monoX T x5, x5 _ _ hL hLt, T5⟩⟩)⟩
        · refine ⟨_, rfl, rfl, _, rfl, iteDF (fun z => nomatch z) ?_⟩
          refine ⟨_, rfl, t, c, cs, 4, rfl, T, by decide, by decide +kernel, fun d H5 d0 d1 T5 x5 => ⟨_, _, rfl, rfl, _, rfl, ?_⟩⟩
          have A5 := A.monoX T x5
          have hL5 := x5 _ _ hL hLt
          refine ite2 (fun _ => ?_) (fun _ => ?_)
          · exact ⟨_, rfl, _, rfl, _, rfl, t, c, S, L, cs, s, rfl, T5, A5, ok, l6, hL5, fun st l H6 hT lo T6 x6 => ⟨_, st, l, rfl, hT, lo, A5.monoX T5 x6, x6 _ _ hL5 hLt, T6⟩⟩
          · exact ⟨_, st, l, rfl, hT.mono (KeepT.ofX T x5), lo, A5, hL5, T5⟩
      rintro σ H5 ⟨v5, st, l, rfl, hT, lo, A5, hL5, T5⟩
      have B5 : ScV H5 S s := ⟨A5.sk, A5.ds, A5.nm, ok, l6⟩
      have sm : ∀ p ∈ s, TabSm p.2 := fun p hp => (ok p hp).sm
      have g5 := A5.g sm (by omega)
      have dp : (schG s).dep < 9 := Nat.lt_of_le_of_lt (sch_dep s) (by decide)
      refine ⟨_, rfl, _, _, _, rfl, g5, dp, fun B DB H6 gB s6 fB _ => ?_⟩
      refine ⟨_, rfl, _, rfl, S, s, st, l, rfl, B5.mono s6, hT.mono (KeepT.of s6), lo, fun hc pe H7 hpe s7 => ?_, fun hc pe S2 s2 H7 hpe O tb fr s7 => ?_⟩
      · refine ⟨(by show 2 ≤ sizeLine; decide), fun p0 hp0 => ?_⟩
        have e8 := same_new hp0 (.tup [.non, .str "none"])
        have S8 := s6.trans (s7.trans e8)
        refine ⟨_, rfl, _, rfl, S, s, st, l, rfl, B5.mono S8, hT.mono (KeepT.of S8), lo, fun hc' => absurd hc' hc, fun _ H9 d s9 hd => ?_⟩
        refine ⟨true, e_StepError.c.te, fun _ ea hea => ?_, fun z => nomatch z⟩
        have e10 := same_new hd (.xd [("index", .int 0), ("code", .str (codeL (tbs s) l))])
        refine ⟨_, rfl, rfl, rfl, d, _, .int 0, rfl, upd_same, rfl, 0, rfl, _, rfl, iteF ?_⟩
        refine ⟨_, rfl, rfl, rfl, d, _, .str (codeL (tbs s) l), rfl, upd_same, rfl, (by show 2 ≤ sizeLine; decide), fun pa hpa => ?_⟩
        have e11 := same_new hpa (.tup [.non, .str (codeL (tbs s) l)])
        have S11 := s9.trans (e10.trans e11)
        have S10 := S8.trans S11
        have pe11 := S11 _ _ (e8 _ _ hpe)
        have gN : ∀ {H' : Hp} {p : Addr}, H' p = some (.tup [.non, .str (codeL (tbs s) l)]) → Gp H' (.ref p) (.t [.s .non, .s (.str (codeL (tbs s) l))]) [] := fun {H' p} h => .t h (by show 2 ≤ 1000; decide) (GpL.cons (D := []) (E := []) (.s rfl) (GpL.cons (D := []) (E := []) (.s rfl) .nil))
        refine ⟨_, rfl, _, rfl, _, _, _, _, _, rfl, gN upd_same, gN pe11, fun x hx => absurd hx List.not_mem_nil, (by show (G.t [.s .non, .s (.str (codeL (tbs s) l))]).dep < 9; simp [G.dep, depL]), _, rfl, iteF ?_⟩
        have A11 := A5.monoX T5 (SameX.of S10)
        have T11 := T5.mono S10
        refine ⟨_, rfl, _, rfl, _, _, _, _, _, rfl, A11.g sm (by omega), gB.mono ((s7.trans e8).trans S11), fun x hx hy => g5.there x hx (fB x hy), dp, _, rfl, iteF ?_⟩
        refine ⟨_, rfl, pe, _, 0, _, rfl, rfl, SqT.of pe11, atI_nat (j := 0) rfl, rfl, _, rfl, iteNS rfl ?_⟩
        exact ⟨S, s, _, _, _, _, _, _, rfl, A11, ok, l6, S10 _ _ hL5, T11, .inr ⟨st, l, rfl, hT.mono (KeepT.of S10), lo⟩⟩
      · refine ⟨(by show 2 ≤ sizeLine; decide), fun p0 hp0 => ?_⟩
        have e8 := same_new hp0 (.tup [.non, .str "none"])
        have s78 := s7.trans e8
        have S8 := s6.trans s78
        refine ⟨_, rfl, _, rfl, S, s, st, l, rfl, B5.mono S8, hT.mono (KeepT.of S8), lo, fun _ S3 s3 H9 N => ?_, fun hc' => absurd hc hc'⟩
        rw [← tb] at N
        have O8 := O.mono e8
        refine ⟨(by show 2 ≤ sizeLine; decide), fun pa hpa => ?_⟩
        have e10 := same_new hpa (.tup [.ref S3, .str ""])
        have S9 := N.se.trans e10
        have S10 := S8.trans S9
        have O10 := O8.mono S9
        have sm2 : ∀ p ∈ s2, TabSm p.2 := fun p hp => (O.v.ok p hp).sm
        have l62 := O.v.l6
        have gA := (N.g O.v.nm sm2 (by omega)).mono e10
        have gE := sch_gp O10.v.sk O10.v.ds O.v.nm sm2 (by omega) (fun p hp => (O.new.fd p hp).2.1)
        have pe10 := S9 _ _ (e8 _ _ hpe)
        have gT : ∀ {p x : Addr} {D : List Addr}, (upd H9 pa (.tup [.ref S3, .str ""])) p = some (.tup [.ref x, .str ""]) → Gp (upd H9 pa (.tup [.ref S3, .str ""])) (.ref x) (schG s2) D → Gp (upd H9 pa (.tup [.ref S3, .str ""])) (.ref p) (.t [schG s2, .s (.str "")]) (D ++ ([] ++ [])) := fun {p x D} h g => .t h (by show 2 ≤ 1000; decide) (GpL.cons g (GpL.cons (D := []) (E := []) (.s rfl) .nil))
        have dp2 : (G.t [schG s2, .s (.str "")]).dep < 9 := by
          have := sch_dep s2
          simp only [G.dep, depL]
          omega
        refine ⟨_, rfl, _, rfl, _, _, _, _, _, rfl, gT upd_same gA, gT pe10 gE, fun x hx hy => ?_, dp2, _, rfl, iteF ?_⟩
        · simp only [List.append_nil] at hx hy
          have h1 := N.newD x hx
          have gE8 := sch_gp O8.v.sk O8.v.ds O.v.nm sm2 (by omega) (fun p hp => (O.new.fd p hp).2.1)
          exact gE8.there x hy h1
        have A10 := A5.monoX T5 (SameX.of S10)
        have T10 := T5.mono S10
        refine ⟨_, rfl, _, rfl, _, _, _, _, _, rfl, A10.g sm (by omega), gB.mono (s78.trans S9), fun x hx hy => g5.there x hx (fB x hy), dp, _, rfl, iteF ?_⟩
        refine ⟨_, rfl, pe, _, 0, _, rfl, rfl, SqT.of pe10, atI_nat (j := 0) rfl, rfl, _, rfl, iteNF (fun z => nomatch z) ?_⟩
        refine ⟨_, rfl, pe, _, 0, _, rfl, rfl, SqT.of pe10, atI_nat (j := 0) rfl, ?_⟩
        have fr5 : ∀ a ∈ S2 :: schD s2, H5 a = none := fun a ha => s6.free (fr a ha)
        exact ⟨S2, s2, _, _, _, _, _, _, rfl, O10.at T5 T10 fr5, O.v.ok, l62, S10 _ _ hL5, T10, .inr ⟨st, l, rfl, hT.mono (KeepT.of S10), lo⟩⟩
    · rintro σ H4 ⟨S, s, sv, v5, v6, v7, v8, v9, rfl, A, ok, l6, hL, T, hsv⟩
      exact q H4)
end
end Lt
namespace Lt
open PySem L2 TL
open C8 (pss_cut)
theorem all_mkF {l : PySem.W.OpenLaw} {w : World} {K : PySem.W.Frag} {h : Heap} {mg : Str → Option Value} {fa : Addr} (X : K.In h) (G : h.Ns mainGlobals mg) (hfa : mg "law" = some (.ref fa)) (c : He.SaysE faL fnL K) (ex : exL K = true)
    : ∃ fd : FuncData, (∀ (s : Shared) (v : Value), BindsTo s fd ⟨[v], []⟩ [("script", v)]) ∧ ∀ base : Heap, K.In base → base.Ns mainGlobals mg → FnOk l.prog w K mg base CX0 19 fa fd ["script"] (spLaw K) := by
  have a_law_tape := He.glo_ok X G (c.fact 0 (f := .glo "_law_tape") (by rfl))
  have a_law_take := He.glo_ok X G (c.fact 1 (f := .glo "_law_take") (by rfl))
  have a_law_name := He.glo_ok X G (c.fact 2 (f := .glo "_law_name") (by rfl))
  have a_law_table := He.glo_ok X G (c.fact 3 (f := .glo "_law_table") (by rfl))
  have a_law_columns := He.glo_ok X G (c.fact 4 (f := .glo "_law_columns") (by rfl))
  have a_law_names := He.glo_ok X G (c.fact 5 (f := .glo "_law_names") (by rfl))
  have a_law_integer := He.glo_ok X G (c.fact 6 (f := .glo "_law_integer") (by rfl))
  have a_law_char := He.glo_ok X G (c.fact 7 (f := .glo "_law_char") (by rfl))
  have a_law_text := He.glo_ok X G (c.fact 8 (f := .glo "_law_text") (by rfl))
  have a_law_value := He.glo_ok X G (c.fact 9 (f := .glo "_law_value") (by rfl))
  have a_law_clause := He.glo_ok X G (c.fact 10 (f := .glo "_law_clause") (by rfl))
  have a_law_condition := He.glo_ok X G (c.fact 11 (f := .glo "_law_condition") (by rfl))
  have a_law_limits := He.glo_ok X G (c.fact 12 (f := .glo "_law_limits") (by rfl))
  have a_law_schema := He.glo_ok X G (c.fact 13 (f := .glo "_law_schema") (by rfl))
  have a_law_pick := He.glo_ok X G (c.fact 14 (f := .glo "_law_pick") (by rfl))
  have a_law_limit_step := He.glo_ok X G (c.fact 15 (f := .glo "_law_limit_step") (by rfl))
  have a_law_step := He.glo_ok X G (c.fact 16 (f := .glo "_law_step") (by rfl))
  have a_law_copy := He.glo_ok X G (c.fact 17 (f := .glo "_law_copy") (by rfl))
  have a_law_condition_fits := He.glo_ok X G (c.fact 18 (f := .glo "_law_condition_fits") (by rfl))
  have a_law_leads := He.glo_ok X G (c.fact 19 (f := .glo "_law_leads") (by rfl))
  have a_law_check := He.glo_ok X G (c.fact 20 (f := .glo "_law_check") (by rfl))
  have a_law_found := He.glo_ok X G (c.fact 21 (f := .glo "_law_found") (by rfl))
  have a_law_unique := He.glo_ok X G (c.fact 22 (f := .glo "_law_unique") (by rfl))
  have a_law_reference := He.glo_ok X G (c.fact 23 (f := .glo "_law_reference") (by rfl))
  have a_law_expected := He.glo_ok X G (c.fact 24 (f := .glo "_law_expected") (by rfl))
  have a_kind_of := He.glo_ok X G (c.fact 25 (f := .glo "kind_of") (by rfl))
  have a_is_text_code := He.glo_ok X G (c.fact 26 (f := .glo "is_text_code") (by rfl))
  have a_is_text_character := He.glo_ok X G (c.fact 27 (f := .glo "is_text_character") (by rfl))
  have a_is_text := He.glo_ok X G (c.fact 28 (f := .glo "is_text") (by rfl))
  have a_is_value := He.glo_ok X G (c.fact 29 (f := .glo "is_value") (by rfl))
  have a_fits_kind := He.glo_ok X G (c.fact 30 (f := .glo "fits_kind") (by rfl))
  have a_clause_fits := He.glo_ok X G (c.fact 31 (f := .glo "clause_fits") (by rfl))
  have a_fits := He.glo_ok X G (c.fact 32 (f := .glo "fits") (by rfl))
  have a_is_referenced := He.glo_ok X G (c.fact 33 (f := .glo "is_referenced") (by rfl))
  have a_full_code := He.glo_ok X G (c.fact 34 (f := .glo "full_code") (by rfl))
  have a_add_check_code := He.glo_ok X G (c.fact 35 (f := .glo "add_check_code") (by rfl))
  have a_column_names := He.glo_ok X G (c.fact 36 (f := .glo "column_names") (by rfl))
  have a_lacks := He.glo_ok X G (c.fact 37 (f := .glo "lacks") (by rfl))
  have a_key_name := He.glo_ok X G (c.fact 38 (f := .glo "key_name") (by rfl))
  have a_add_unique_code := He.glo_ok X G (c.fact 39 (f := .glo "add_unique_code") (by rfl))
  have a_column_called := He.glo_ok X G (c.fact 40 (f := .glo "column_called") (by rfl))
  have a_key_kind := He.glo_ok X G (c.fact 41 (f := .glo "key_kind") (by rfl))
  have a_add_reference_code := He.glo_ok X G (c.fact 42 (f := .glo "add_reference_code") (by rfl))
  have a_constraint_of := He.glo_ok X G (c.fact 43 (f := .glo "constraint_of") (by rfl))
  have a_drop_code := He.glo_ok X G (c.fact 44 (f := .glo "drop_code") (by rfl))
  have a_limit_step_code := He.glo_ok X G (c.fact 45 (f := .glo "limit_step_code") (by rfl))
  have a_step_code := He.glo_ok X G (c.fact 46 (f := .glo "step_code") (by rfl))
  have a_copy_description := He.glo_ok X G (c.fact 47 (f := .glo "copy_description") (by rfl))
  have a_copy_schema := He.glo_ok X G (c.fact 48 (f := .glo "copy_schema") (by rfl))
  have a_limit_step_target := He.glo_ok X G (c.fact 49 (f := .glo "limit_step_target") (by rfl))
  have a_changed_schema := He.glo_ok X G (c.fact 50 (f := .glo "changed_schema") (by rfl))
  have a_target_schema := He.glo_ok X G (c.fact 51 (f := .glo "target_schema") (by rfl))
  have a_law_is_integer := He.glo_ok X G (c.fact 52 (f := .glo "_law_is_integer") (by rfl))
  have a_law_same_items := He.glo_ok X G (c.fact 53 (f := .glo "_law_same_items") (by rfl))
  have a_law_same := He.glo_ok X G (c.fact 54 (f := .glo "_law_same") (by rfl))
  have a_law := He.glo_ok X G (c.fact 55 (f := .glo "law") (by rfl))
  have e := hfa.symm.trans a_law
  cases e
  obtain ⟨oc_law_tape, od_law_tape, sl_law_tape, kV_law_tape, dc_law_tape, pm_law_tape, an_law_tape, cd_law_tape, ct_law_tape, l_law_tape, c_law_tape⟩ := c.def_ 0 (d := dF_law_tape) (by rfl)
  have F_law_tape := fun_mk (st := s_law_tape) (x := "_law_tape") (qual := "_law_tape") (f := He.ga K "_law_tape") l_law_tape c_law_tape (He.keep_ok (c.fact 60 (f := .keep "_law_tape") (by rfl)))
  have b_law_tape := F_law_tape.binds (ps := ["script"]) fun _ _ _ _ _ _ us hl => match us, hl with | [_], _ => rfl
  have n_law_tape : Kn K mg "_law_tape" s_law_tape ["script"] (He.ga K "_law_tape") _ := ⟨F_law_tape, b_law_tape, a_law_tape⟩
  obtain ⟨oc_law_take, od_law_take, sl_law_take, kV_law_take, dc_law_take, pm_law_take, an_law_take, cd_law_take, ct_law_take, l_law_take, c_law_take⟩ := c.def_ 1 (d := dF_law_take) (by rfl)
  have F_law_take := fun_mk (st := s_law_take) (x := "_law_take") (qual := "_law_take") (f := He.ga K "_law_take") l_law_take c_law_take (He.keep_ok (c.fact 61 (f := .keep "_law_take") (by rfl)))
  have b_law_take := F_law_take.binds (ps := ["tape", "many"]) fun _ _ _ _ _ _ us hl => match us, hl with | [_, _], _ => rfl
  have n_law_take : Kn K mg "_law_take" s_law_take ["tape", "many"] (He.ga K "_law_take") _ := ⟨F_law_take, b_law_take, a_law_take⟩
  obtain ⟨oc_law_name, od_law_name, sl_law_name, kV_law_name, dc_law_name, pm_law_name, an_law_name, cd_law_name, ct_law_name, l_law_name, c_law_name⟩ := c.def_ 2 (d := dF_law_name) (by rfl)
  have F_law_name := fun_mk (st := s_law_name) (x := "_law_name") (qual := "_law_name") (f := He.ga K "_law_name") l_law_name c_law_name (He.keep_ok (c.fact 62 (f := .keep "_law_name") (by rfl)))
  have b_law_name := F_law_name.binds (ps := ["tape", "used"]) fun _ _ _ _ _ _ us hl => match us, hl with | [_, _], _ => rfl
  have n_law_name : Kn K mg "_law_name" s_law_name ["tape", "used"] (He.ga K "_law_name") _ := ⟨F_law_name, b_law_name, a_law_name⟩
  obtain ⟨oc_law_table, od_law_table, sl_law_table, kV_law_table, dc_law_table, pm_law_table, an_law_table, cd_law_table, ct_law_table, l_law_table, c_law_table⟩ := c.def_ 3 (d := dF_law_table) (by rfl)
  have F_law_table := fun_mk (st := s_law_table) (x := "_law_table") (qual := "_law_table") (f := He.ga K "_law_table") l_law_table c_law_table (He.keep_ok (c.fact 63 (f := .keep "_law_table") (by rfl)))
  have b_law_table := F_law_table.binds (ps := ["columns"]) fun _ _ _ _ _ _ us hl => match us, hl with | [_], _ => rfl
  have n_law_table : Kn K mg "_law_table" s_law_table ["columns"] (He.ga K "_law_table") _ := ⟨F_law_table, b_law_table, a_law_table⟩
  obtain ⟨oc_law_columns, od_law_columns, sl_law_columns, kV_law_columns, dc_law_columns, pm_law_columns, an_law_columns, cd_law_columns, ct_law_columns, l_law_columns, c_law_columns⟩ := c.def_ 4 (d := dF_law_columns) (by rfl)
  have F_law_columns := fun_mk (st := s_law_columns) (x := "_law_columns") (qual := "_law_columns") (f := He.ga K "_law_columns") l_law_columns c_law_columns (He.keep_ok (c.fact 64 (f := .keep "_law_columns") (by rfl)))
  have b_law_columns := F_law_columns.binds (ps := ["tape", "used", "many"]) fun _ _ _ _ _ _ us hl => match us, hl with | [_, _, _], _ => rfl
  have n_law_columns : Kn K mg "_law_columns" s_law_columns ["tape", "used", "many"] (He.ga K "_law_columns") _ := ⟨F_law_columns, b_law_columns, a_law_columns⟩
  obtain ⟨oc_law_names, od_law_names, sl_law_names, kV_law_names, dc_law_names, pm_law_names, an_law_names, cd_law_names, ct_law_names, l_law_names, c_law_names⟩ := c.def_ 5 (d := dF_law_names) (by rfl)
  have F_law_names := fun_mk (st := s_law_names) (x := "_law_names") (qual := "_law_names") (f := He.ga K "_law_names") l_law_names c_law_names (He.keep_ok (c.fact 65 (f := .keep "_law_names") (by rfl)))
  have b_law_names := F_law_names.binds (ps := ["columns"]) fun _ _ _ _ _ _ us hl => match us, hl with | [_], _ => rfl
  have n_law_names : Kn K mg "_law_names" s_law_names ["columns"] (He.ga K "_law_names") _ := ⟨F_law_names, b_law_names, a_law_names⟩
  obtain ⟨oc_law_integer, od_law_integer, sl_law_integer, kV_law_integer, dc_law_integer, pm_law_integer, an_law_integer, cd_law_integer, ct_law_integer, l_law_integer, c_law_integer⟩ := c.def_ 6 (d := dF_law_integer) (by rfl)
  have F_law_integer := fun_mk (st := s_law_integer) (x := "_law_integer") (qual := "_law_integer") (f := He.ga K "_law_integer") l_law_integer c_law_integer (He.keep_ok (c.fact 66 (f := .keep "_law_integer") (by rfl)))
  have b_law_integer := F_law_integer.binds (ps := ["tape"]) fun _ _ _ _ _ _ us hl => match us, hl with | [_], _ => rfl
  have n_law_integer : Kn K mg "_law_integer" s_law_integer ["tape"] (He.ga K "_law_integer") _ := ⟨F_law_integer, b_law_integer, a_law_integer⟩
  obtain ⟨oc_law_char, od_law_char, sl_law_char, kV_law_char, dc_law_char, pm_law_char, an_law_char, cd_law_char, ct_law_char, l_law_char, c_law_char⟩ := c.def_ 7 (d := dF_law_char) (by rfl)
  have F_law_char := fun_mk (st := s_law_char) (x := "_law_char") (qual := "_law_char") (f := He.ga K "_law_char") l_law_char c_law_char (He.keep_ok (c.fact 67 (f := .keep "_law_char") (by rfl)))
  have b_law_char := F_law_char.binds (ps := ["tape"]) fun _ _ _ _ _ _ us hl => match us, hl with | [_], _ => rfl
  have n_law_char : Kn K mg "_law_char" s_law_char ["tape"] (He.ga K "_law_char") _ := ⟨F_law_char, b_law_char, a_law_char⟩
  obtain ⟨oc_law_text, od_law_text, sl_law_text, kV_law_text, dc_law_text, pm_law_text, an_law_text, cd_law_text, ct_law_text, l_law_text, c_law_text⟩ := c.def_ 8 (d := dF_law_text) (by rfl)
  have F_law_text := fun_mk (st := s_law_text) (x := "_law_text") (qual := "_law_text") (f := He.ga K "_law_text") l_law_text c_law_text (He.keep_ok (c.fact 68 (f := .keep "_law_text") (by rfl)))
  have b_law_text := F_law_text.binds (ps := ["tape"]) fun _ _ _ _ _ _ us hl => match us, hl with | [_], _ => rfl
  have n_law_text : Kn K mg "_law_text" s_law_text ["tape"] (He.ga K "_law_text") _ := ⟨F_law_text, b_law_text, a_law_text⟩
  obtain ⟨oc_law_value, od_law_value, sl_law_value, kV_law_value, dc_law_value, pm_law_value, an_law_value, cd_law_value, ct_law_value, l_law_value, c_law_value⟩ := c.def_ 9 (d := dF_law_value) (by rfl)
  have F_law_value := fun_mk (st := s_law_value) (x := "_law_value") (qual := "_law_value") (f := He.ga K "_law_value") l_law_value c_law_value (He.keep_ok (c.fact 69 (f := .keep "_law_value") (by rfl)))
  have b_law_value := F_law_value.binds (ps := ["tape", "kind", "nullable"]) fun _ _ _ _ _ _ us hl => match us, hl with | [_, _, _], _ => rfl
  have n_law_value : Kn K mg "_law_value" s_law_value ["tape", "kind", "nullable"] (He.ga K "_law_value") _ := ⟨F_law_value, b_law_value, a_law_value⟩
  obtain ⟨oc_law_clause, od_law_clause, sl_law_clause, kV_law_clause, dc_law_clause, pm_law_clause, an_law_clause, cd_law_clause, ct_law_clause, l_law_clause, c_law_clause⟩ := c.def_ 10 (d := dF_law_clause) (by rfl)
  have F_law_clause := fun_mk (st := s_law_clause) (x := "_law_clause") (qual := "_law_clause") (f := He.ga K "_law_clause") l_law_clause c_law_clause (He.keep_ok (c.fact 70 (f := .keep "_law_clause") (by rfl)))
  have b_law_clause := F_law_clause.binds (ps := ["tape", "columns"]) fun _ _ _ _ _ _ us hl => match us, hl with | [_, _], _ => rfl
  have n_law_clause : Kn K mg "_law_clause" s_law_clause ["tape", "columns"] (He.ga K "_law_clause") _ := ⟨F_law_clause, b_law_clause, a_law_clause⟩
  obtain ⟨oc_law_condition, od_law_condition, sl_law_condition, kV_law_condition, dc_law_condition, pm_law_condition, an_law_condition, cd_law_condition, ct_law_condition, l_law_condition, c_law_condition⟩ := c.def_ 11 (d := dF_law_condition) (by rfl)
  have F_law_condition := fun_mk (st := s_law_condition) (x := "_law_condition") (qual := "_law_condition") (f := He.ga K "_law_condition") l_law_condition c_law_condition (He.keep_ok (c.fact 71 (f := .keep "_law_condition") (by rfl)))
  have b_law_condition := F_law_condition.binds (ps := ["tape", "columns"]) fun _ _ _ _ _ _ us hl => match us, hl with | [_, _], _ => rfl
  have n_law_condition : Kn K mg "_law_condition" s_law_condition ["tape", "columns"] (He.ga K "_law_condition") _ := ⟨F_law_condition, b_law_condition, a_law_condition⟩
  obtain ⟨oc_law_limits, od_law_limits, sl_law_limits, kV_law_limits, dc_law_limits, pm_law_limits, an_law_limits, cd_law_limits, ct_law_limits, l_law_limits, c_law_limits⟩ := c.def_ 12 (d := dF_law_limits) (by rfl)
  have F_law_limits := fun_mk (st := s_law_limits) (x := "_law_limits") (qual := "_law_limits") (f := He.ga K "_law_limits") l_law_limits c_law_limits (He.keep_ok (c.fact 72 (f := .keep "_law_limits") (by rfl)))
  have b_law_limits := F_law_limits.binds (ps := ["tape", "schema", "table"]) fun _ _ _ _ _ _ us hl => match us, hl with | [_, _, _], _ => rfl
  have n_law_limits : Kn K mg "_law_limits" s_law_limits ["tape", "schema", "table"] (He.ga K "_law_limits") _ := ⟨F_law_limits, b_law_limits, a_law_limits⟩
  obtain ⟨oc_law_schema, od_law_schema, sl_law_schema, kV_law_schema, dc_law_schema, pm_law_schema, an_law_schema, cd_law_schema, ct_law_schema, l_law_schema, c_law_schema⟩ := c.def_ 13 (d := dF_law_schema) (by rfl)
  have F_law_schema := fun_mk (st := s_law_schema) (x := "_law_schema") (qual := "_law_schema") (f := He.ga K "_law_schema") l_law_schema c_law_schema (He.keep_ok (c.fact 73 (f := .keep "_law_schema") (by rfl)))
  have b_law_schema := F_law_schema.binds (ps := ["tape", "least", "most"]) fun _ _ _ _ _ _ us hl => match us, hl with | [_, _, _], _ => rfl
  have n_law_schema : Kn K mg "_law_schema" s_law_schema ["tape", "least", "most"] (He.ga K "_law_schema") _ := ⟨F_law_schema, b_law_schema, a_law_schema⟩
  obtain ⟨oc_law_pick, od_law_pick, sl_law_pick, kV_law_pick, dc_law_pick, pm_law_pick, an_law_pick, cd_law_pick, ct_law_pick, l_law_pick, c_law_pick⟩ := c.def_ 14 (d := dF_law_pick) (by rfl)
  have F_law_pick := fun_mk (st := s_law_pick) (x := "_law_pick") (qual := "_law_pick") (f := He.ga K "_law_pick") l_law_pick c_law_pick (He.keep_ok (c.fact 74 (f := .keep "_law_pick") (by rfl)))
  have b_law_pick := F_law_pick.binds (ps := ["tape", "items", "other"]) fun _ _ _ _ _ _ us hl => match us, hl with | [_, _, _], _ => rfl
  have n_law_pick : Kn K mg "_law_pick" s_law_pick ["tape", "items", "other"] (He.ga K "_law_pick") _ := ⟨F_law_pick, b_law_pick, a_law_pick⟩
  obtain ⟨oc_law_limit_step, od_law_limit_step, sl_law_limit_step, kV_law_limit_step, dc_law_limit_step, pm_law_limit_step, an_law_limit_step, cd_law_limit_step, ct_law_limit_step, l_law_limit_step, c_law_limit_step⟩ := c.def_ 15 (d := dF_law_limit_step) (by rfl)
  have F_law_limit_step := fun_mk (st := s_law_limit_step) (x := "_law_limit_step") (qual := "_law_limit_step") (f := He.ga K "_law_limit_step") l_law_limit_step c_law_limit_step (He.keep_ok (c.fact 75 (f := .keep "_law_limit_step") (by rfl)))
  have b_law_limit_step := F_law_limit_step.binds (ps := ["tape", "kind", "schema", "table", "columns"]) fun _ _ _ _ _ _ us hl => match us, hl with | [_, _, _, _, _], _ => rfl
  have n_law_limit_step : Kn K mg "_law_limit_step" s_law_limit_step ["tape", "kind", "schema", "table", "columns"] (He.ga K "_law_limit_step") _ := ⟨F_law_limit_step, b_law_limit_step, a_law_limit_step⟩
  obtain ⟨oc_law_step, od_law_step, sl_law_step, kV_law_step, dc_law_step, pm_law_step, an_law_step, cd_law_step, ct_law_step, l_law_step, c_law_step⟩ := c.def_ 16 (d := dF_law_step) (by rfl)
  have F_law_step := fun_mk (st := s_law_step) (x := "_law_step") (qual := "_law_step") (f := He.ga K "_law_step") l_law_step c_law_step (He.keep_ok (c.fact 76 (f := .keep "_law_step") (by rfl)))
  have b_law_step := F_law_step.binds (ps := ["tape", "schema", "kinds"]) fun _ _ _ _ _ _ us hl => match us, hl with | [_, _, _], _ => rfl
  have n_law_step : Kn K mg "_law_step" s_law_step ["tape", "schema", "kinds"] (He.ga K "_law_step") _ := ⟨F_law_step, b_law_step, a_law_step⟩
  obtain ⟨oc_law_copy, od_law_copy, sl_law_copy, kV_law_copy, dc_law_copy, pm_law_copy, an_law_copy, cd_law_copy, ct_law_copy, l_law_copy, c_law_copy⟩ := c.def_ 17 (d := dF_law_copy) (by rfl)
  have F_law_copy := fun_mk (st := s_law_copy) (x := "_law_copy") (qual := "_law_copy") (f := He.ga K "_law_copy") l_law_copy c_law_copy (He.keep_ok (c.fact 77 (f := .keep "_law_copy") (by rfl)))
  have b_law_copy := F_law_copy.binds (ps := ["thing"]) fun _ _ _ _ _ _ us hl => match us, hl with | [_], _ => rfl
  have n_law_copy : Kn K mg "_law_copy" s_law_copy ["thing"] (He.ga K "_law_copy") _ := ⟨F_law_copy, b_law_copy, a_law_copy⟩
  obtain ⟨oc_law_condition_fits, od_law_condition_fits, sl_law_condition_fits, kV_law_condition_fits, dc_law_condition_fits, pm_law_condition_fits, an_law_condition_fits, cd_law_condition_fits, ct_law_condition_fits, l_law_condition_fits, c_law_condition_fits⟩ := c.def_ 18 (d := dF_law_condition_fits) (by rfl)
  have F_law_condition_fits := fun_mk (st := s_law_condition_fits) (x := "_law_condition_fits") (qual := "_law_condition_fits") (f := He.ga K "_law_condition_fits") l_law_condition_fits c_law_condition_fits (He.keep_ok (c.fact 78 (f := .keep "_law_condition_fits") (by rfl)))
  have b_law_condition_fits := F_law_condition_fits.binds (ps := ["condition", "columns"]) fun _ _ _ _ _ _ us hl => match us, hl with | [_, _], _ => rfl
  have n_law_condition_fits : Kn K mg "_law_condition_fits" s_law_condition_fits ["condition", "columns"] (He.ga K "_law_condition_fits") _ := ⟨F_law_condition_fits, b_law_condition_fits, a_law_condition_fits⟩
  obtain ⟨oc_law_leads, od_law_leads, sl_law_leads, kV_law_leads, dc_law_leads, pm_law_leads, an_law_leads, cd_law_leads, ct_law_leads, l_law_leads, c_law_leads⟩ := c.def_ 19 (d := dF_law_leads) (by rfl)
  have F_law_leads := fun_mk (st := s_law_leads) (x := "_law_leads") (qual := "_law_leads") (f := He.ga K "_law_leads") l_law_leads c_law_leads (He.keep_ok (c.fact 79 (f := .keep "_law_leads") (by rfl)))
  have b_law_leads := F_law_leads.binds (ps := ["schema", "table"]) fun _ _ _ _ _ _ us hl => match us, hl with | [_, _], _ => rfl
  have n_law_leads : Kn K mg "_law_leads" s_law_leads ["schema", "table"] (He.ga K "_law_leads") _ := ⟨F_law_leads, b_law_leads, a_law_leads⟩
  obtain ⟨oc_law_check, od_law_check, sl_law_check, kV_law_check, dc_law_check, pm_law_check, an_law_check, cd_law_check, ct_law_check, l_law_check, c_law_check⟩ := c.def_ 20 (d := dF_law_check) (by rfl)
  have F_law_check := fun_mk (st := s_law_check) (x := "_law_check") (qual := "_law_check") (f := He.ga K "_law_check") l_law_check c_law_check (He.keep_ok (c.fact 80 (f := .keep "_law_check") (by rfl)))
  have b_law_check := F_law_check.binds (ps := ["schema", "step"]) fun _ _ _ _ _ _ us hl => match us, hl with | [_, _], _ => rfl
  have n_law_check : Kn K mg "_law_check" s_law_check ["schema", "step"] (He.ga K "_law_check") _ := ⟨F_law_check, b_law_check, a_law_check⟩
  obtain ⟨oc_law_found, od_law_found, sl_law_found, kV_law_found, dc_law_found, pm_law_found, an_law_found, cd_law_found, ct_law_found, l_law_found, c_law_found⟩ := c.def_ 21 (d := dF_law_found) (by rfl)
  have F_law_found := fun_mk (st := s_law_found) (x := "_law_found") (qual := "_law_found") (f := He.ga K "_law_found") l_law_found c_law_found (He.keep_ok (c.fact 81 (f := .keep "_law_found") (by rfl)))
  have b_law_found := F_law_found.binds (ps := ["description", "name"]) fun _ _ _ _ _ _ us hl => match us, hl with | [_, _], _ => rfl
  have n_law_found : Kn K mg "_law_found" s_law_found ["description", "name"] (He.ga K "_law_found") _ := ⟨F_law_found, b_law_found, a_law_found⟩
  obtain ⟨oc_law_unique, od_law_unique, sl_law_unique, kV_law_unique, dc_law_unique, pm_law_unique, an_law_unique, cd_law_unique, ct_law_unique, l_law_unique, c_law_unique⟩ := c.def_ 22 (d := dF_law_unique) (by rfl)
  have F_law_unique := fun_mk (st := s_law_unique) (x := "_law_unique") (qual := "_law_unique") (f := He.ga K "_law_unique") l_law_unique c_law_unique (He.keep_ok (c.fact 82 (f := .keep "_law_unique") (by rfl)))
  have b_law_unique := F_law_unique.binds (ps := ["schema", "step"]) fun _ _ _ _ _ _ us hl => match us, hl with | [_, _], _ => rfl
  have n_law_unique : Kn K mg "_law_unique" s_law_unique ["schema", "step"] (He.ga K "_law_unique") _ := ⟨F_law_unique, b_law_unique, a_law_unique⟩
  obtain ⟨oc_law_reference, od_law_reference, sl_law_reference, kV_law_reference, dc_law_reference, pm_law_reference, an_law_reference, cd_law_reference, ct_law_reference, l_law_reference, c_law_reference⟩ := c.def_ 23 (d := dF_law_reference) (by rfl)
  have F_law_reference := fun_mk (st := s_law_reference) (x := "_law_reference") (qual := "_law_reference") (f := He.ga K "_law_reference") l_law_reference c_law_reference (He.keep_ok (c.fact 83 (f := .keep "_law_reference") (by rfl)))
  have b_law_reference := F_law_reference.binds (ps := ["schema", "step"]) fun _ _ _ _ _ _ us hl => match us, hl with | [_, _], _ => rfl
  have n_law_reference : Kn K mg "_law_reference" s_law_reference ["schema", "step"] (He.ga K "_law_reference") _ := ⟨F_law_reference, b_law_reference, a_law_reference⟩
  obtain ⟨oc_law_expected, od_law_expected, sl_law_expected, kV_law_expected, dc_law_expected, pm_law_expected, an_law_expected, cd_law_expected, ct_law_expected, l_law_expected, c_law_expected⟩ := c.def_ 24 (d := dF_law_expected) (by rfl)
  have F_law_expected := fun_mk (st := s_law_expected) (x := "_law_expected") (qual := "_law_expected") (f := He.ga K "_law_expected") l_law_expected c_law_expected (He.keep_ok (c.fact 84 (f := .keep "_law_expected") (by rfl)))
  have b_law_expected := F_law_expected.binds (ps := ["schema", "step"]) fun _ _ _ _ _ _ us hl => match us, hl with | [_, _], _ => rfl
  have n_law_expected : Kn K mg "_law_expected" s_law_expected ["schema", "step"] (He.ga K "_law_expected") _ := ⟨F_law_expected, b_law_expected, a_law_expected⟩
  obtain ⟨oc_kind_of, od_kind_of, sl_kind_of, kV_kind_of, dc_kind_of, pm_kind_of, an_kind_of, cd_kind_of, ct_kind_of, l_kind_of, c_kind_of⟩ := c.def_ 25 (d := dF_kind_of) (by rfl)
  have F_kind_of := fun_mk (st := s_kind_of) (x := "kind_of") (qual := "kind_of") (f := He.ga K "kind_of") l_kind_of c_kind_of (He.keep_ok (c.fact 85 (f := .keep "kind_of") (by rfl)))
  have b_kind_of := F_kind_of.binds (ps := ["value"]) fun _ _ _ _ _ _ us hl => match us, hl with | [_], _ => rfl
  have n_kind_of : Kn K mg "kind_of" s_kind_of ["value"] (He.ga K "kind_of") _ := ⟨F_kind_of, b_kind_of, a_kind_of⟩
  obtain ⟨oc_is_text_code, od_is_text_code, sl_is_text_code, kV_is_text_code, dc_is_text_code, pm_is_text_code, an_is_text_code, cd_is_text_code, ct_is_text_code, l_is_text_code, c_is_text_code⟩ := c.def_ 26 (d := dF_is_text_code) (by rfl)
  have F_is_text_code := fun_mk (st := s_is_text_code) (x := "is_text_code") (qual := "is_text_code") (f := He.ga K "is_text_code") l_is_text_code c_is_text_code (He.keep_ok (c.fact 86 (f := .keep "is_text_code") (by rfl)))
  have b_is_text_code := F_is_text_code.binds (ps := ["code"]) fun _ _ _ _ _ _ us hl => match us, hl with | [_], _ => rfl
  have n_is_text_code : Kn K mg "is_text_code" s_is_text_code ["code"] (He.ga K "is_text_code") _ := ⟨F_is_text_code, b_is_text_code, a_is_text_code⟩
  obtain ⟨oc_is_text_character, od_is_text_character, sl_is_text_character, kV_is_text_character, dc_is_text_character, pm_is_text_character, an_is_text_character, cd_is_text_character, ct_is_text_character, l_is_text_character, c_is_text_character⟩ := c.def_ 27 (d := dF_is_text_character) (by rfl)
  have F_is_text_character := fun_mk (st := s_is_text_character) (x := "is_text_character") (qual := "is_text_character") (f := He.ga K "is_text_character") l_is_text_character c_is_text_character (He.keep_ok (c.fact 87 (f := .keep "is_text_character") (by rfl)))
  have b_is_text_character := F_is_text_character.binds (ps := ["character"]) fun _ _ _ _ _ _ us hl => match us, hl with | [_], _ => rfl
  have n_is_text_character : Kn K mg "is_text_character" s_is_text_character ["character"] (He.ga K "is_text_character") _ := ⟨F_is_text_character, b_is_text_character, a_is_text_character⟩
  obtain ⟨oc_is_text, od_is_text, sl_is_text, kV_is_text, dc_is_text, pm_is_text, an_is_text, cd_is_text, ct_is_text, l_is_text, c_is_text⟩ := c.def_ 28 (d := dF_is_text) (by rfl)
  have F_is_text := fun_mk (st := s_is_text) (x := "is_text") (qual := "is_text") (f := He.ga K "is_text") l_is_text c_is_text (He.keep_ok (c.fact 88 (f := .keep "is_text") (by rfl)))
  have b_is_text := F_is_text.binds (ps := ["thing"]) fun _ _ _ _ _ _ us hl => match us, hl with | [_], _ => rfl
  have n_is_text : Kn K mg "is_text" s_is_text ["thing"] (He.ga K "is_text") _ := ⟨F_is_text, b_is_text, a_is_text⟩
  obtain ⟨oc_is_value, od_is_value, sl_is_value, kV_is_value, dc_is_value, pm_is_value, an_is_value, cd_is_value, ct_is_value, l_is_value, c_is_value⟩ := c.def_ 29 (d := dF_is_value) (by rfl)
  have F_is_value := fun_mk (st := s_is_value) (x := "is_value") (qual := "is_value") (f := He.ga K "is_value") l_is_value c_is_value (He.keep_ok (c.fact 89 (f := .keep "is_value") (by rfl)))
  have b_is_value := F_is_value.binds (ps := ["thing"]) fun _ _ _ _ _ _ us hl => match us, hl with | [_], _ => rfl
  have n_is_value : Kn K mg "is_value" s_is_value ["thing"] (He.ga K "is_value") _ := ⟨F_is_value, b_is_value, a_is_value⟩
  obtain ⟨oc_fits_kind, od_fits_kind, sl_fits_kind, kV_fits_kind, dc_fits_kind, pm_fits_kind, an_fits_kind, cd_fits_kind, ct_fits_kind, l_fits_kind, c_fits_kind⟩ := c.def_ 30 (d := dF_fits_kind) (by rfl)
  have F_fits_kind := fun_mk (st := s_fits_kind) (x := "fits_kind") (qual := "fits_kind") (f := He.ga K "fits_kind") l_fits_kind c_fits_kind (He.keep_ok (c.fact 90 (f := .keep "fits_kind") (by rfl)))
  have b_fits_kind := F_fits_kind.binds (ps := ["thing", "kind", "nullable"]) fun _ _ _ _ _ _ us hl => match us, hl with | [_, _, _], _ => rfl
  have n_fits_kind : Kn K mg "fits_kind" s_fits_kind ["thing", "kind", "nullable"] (He.ga K "fits_kind") _ := ⟨F_fits_kind, b_fits_kind, a_fits_kind⟩
  obtain ⟨oc_clause_fits, od_clause_fits, sl_clause_fits, kV_clause_fits, dc_clause_fits, pm_clause_fits, an_clause_fits, cd_clause_fits, ct_clause_fits, l_clause_fits, c_clause_fits⟩ := c.def_ 31 (d := dF_clause_fits) (by rfl)
  have F_clause_fits := fun_mk (st := s_clause_fits) (x := "clause_fits") (qual := "clause_fits") (f := He.ga K "clause_fits") l_clause_fits c_clause_fits (He.keep_ok (c.fact 91 (f := .keep "clause_fits") (by rfl)))
  have b_clause_fits := F_clause_fits.binds (ps := ["clause", "kinds"]) fun _ _ _ _ _ _ us hl => match us, hl with | [_, _], _ => rfl
  have n_clause_fits : Kn K mg "clause_fits" s_clause_fits ["clause", "kinds"] (He.ga K "clause_fits") _ := ⟨F_clause_fits, b_clause_fits, a_clause_fits⟩
  obtain ⟨oc_fits, od_fits, sl_fits, kV_fits, dc_fits, pm_fits, an_fits, cd_fits, ct_fits, l_fits, c_fits⟩ := c.def_ 32 (d := dF_fits) (by rfl)
  have F_fits := fun_mk (st := s_fits) (x := "fits") (qual := "fits") (f := He.ga K "fits") l_fits c_fits (He.keep_ok (c.fact 92 (f := .keep "fits") (by rfl)))
  have b_fits := F_fits.binds (ps := ["condition", "columns"]) fun _ _ _ _ _ _ us hl => match us, hl with | [_, _], _ => rfl
  have n_fits : Kn K mg "fits" s_fits ["condition", "columns"] (He.ga K "fits") _ := ⟨F_fits, b_fits, a_fits⟩
  obtain ⟨oc_is_referenced, od_is_referenced, sl_is_referenced, kV_is_referenced, dc_is_referenced, pm_is_referenced, an_is_referenced, cd_is_referenced, ct_is_referenced, l_is_referenced, c_is_referenced⟩ := c.def_ 33 (d := dF_is_referenced) (by rfl)
  have F_is_referenced := fun_mk (st := s_is_referenced) (x := "is_referenced") (qual := "is_referenced") (f := He.ga K "is_referenced") l_is_referenced c_is_referenced (He.keep_ok (c.fact 93 (f := .keep "is_referenced") (by rfl)))
  have b_is_referenced := F_is_referenced.binds (ps := ["schema", "table"]) fun _ _ _ _ _ _ us hl => match us, hl with | [_, _], _ => rfl
  have n_is_referenced : Kn K mg "is_referenced" s_is_referenced ["schema", "table"] (He.ga K "is_referenced") _ := ⟨F_is_referenced, b_is_referenced, a_is_referenced⟩
  obtain ⟨oc_full_code, od_full_code, sl_full_code, kV_full_code, dc_full_code, pm_full_code, an_full_code, cd_full_code, ct_full_code, l_full_code, c_full_code⟩ := c.def_ 34 (d := dF_full_code) (by rfl)
  have F_full_code := fun_mk (st := s_full_code) (x := "full_code") (qual := "full_code") (f := He.ga K "full_code") l_full_code c_full_code (He.keep_ok (c.fact 94 (f := .keep "full_code") (by rfl)))
  have b_full_code := F_full_code.binds (ps := ["schema", "table", "part"]) fun _ _ _ _ _ _ us hl => match us, hl with | [_, _, _], _ => rfl
  have n_full_code : Kn K mg "full_code" s_full_code ["schema", "table", "part"] (He.ga K "full_code") _ := ⟨F_full_code, b_full_code, a_full_code⟩
  obtain ⟨oc_add_check_code, od_add_check_code, sl_add_check_code, kV_add_check_code, dc_add_check_code, pm_add_check_code, an_add_check_code, cd_add_check_code, ct_add_check_code, l_add_check_code, c_add_check_code⟩ := c.def_ 35 (d := dF_add_check_code) (by rfl)
  have F_add_check_code := fun_mk (st := s_add_check_code) (x := "add_check_code") (qual := "add_check_code") (f := He.ga K "add_check_code") l_add_check_code c_add_check_code (He.keep_ok (c.fact 95 (f := .keep "add_check_code") (by rfl)))
  have b_add_check_code := F_add_check_code.binds (ps := ["schema", "step"]) fun _ _ _ _ _ _ us hl => match us, hl with | [_, _], _ => rfl
  have n_add_check_code : Kn K mg "add_check_code" s_add_check_code ["schema", "step"] (He.ga K "add_check_code") _ := ⟨F_add_check_code, b_add_check_code, a_add_check_code⟩
  obtain ⟨oc_column_names, od_column_names, sl_column_names, kV_column_names, dc_column_names, pm_column_names, an_column_names, cd_column_names, ct_column_names, l_column_names, c_column_names⟩ := c.def_ 36 (d := dF_column_names) (by rfl)
  have F_column_names := fun_mk (st := s_column_names) (x := "column_names") (qual := "column_names") (f := He.ga K "column_names") l_column_names c_column_names (He.keep_ok (c.fact 96 (f := .keep "column_names") (by rfl)))
  have b_column_names := F_column_names.binds (ps := ["description"]) fun _ _ _ _ _ _ us hl => match us, hl with | [_], _ => rfl
  have n_column_names : Kn K mg "column_names" s_column_names ["description"] (He.ga K "column_names") _ := ⟨F_column_names, b_column_names, a_column_names⟩
  obtain ⟨oc_lacks, od_lacks, sl_lacks, kV_lacks, dc_lacks, pm_lacks, an_lacks, cd_lacks, ct_lacks, l_lacks, c_lacks⟩ := c.def_ 37 (d := dF_lacks) (by rfl)
  have F_lacks := fun_mk (st := s_lacks) (x := "lacks") (qual := "lacks") (f := He.ga K "lacks") l_lacks c_lacks (He.keep_ok (c.fact 97 (f := .keep "lacks") (by rfl)))
  have b_lacks := F_lacks.binds (ps := ["schema", "table", "columns"]) fun _ _ _ _ _ _ us hl => match us, hl with | [_, _, _], _ => rfl
  have n_lacks : Kn K mg "lacks" s_lacks ["schema", "table", "columns"] (He.ga K "lacks") _ := ⟨F_lacks, b_lacks, a_lacks⟩
  obtain ⟨oc_key_name, od_key_name, sl_key_name, kV_key_name, dc_key_name, pm_key_name, an_key_name, cd_key_name, ct_key_name, l_key_name, c_key_name⟩ := c.def_ 38 (d := dF_key_name) (by rfl)
  have F_key_name := fun_mk (st := s_key_name) (x := "key_name") (qual := "key_name") (f := He.ga K "key_name") l_key_name c_key_name (He.keep_ok (c.fact 98 (f := .keep "key_name") (by rfl)))
  have b_key_name := F_key_name.binds (ps := ["description"]) fun _ _ _ _ _ _ us hl => match us, hl with | [_], _ => rfl
  have n_key_name : Kn K mg "key_name" s_key_name ["description"] (He.ga K "key_name") _ := ⟨F_key_name, b_key_name, a_key_name⟩
  obtain ⟨oc_add_unique_code, od_add_unique_code, sl_add_unique_code, kV_add_unique_code, dc_add_unique_code, pm_add_unique_code, an_add_unique_code, cd_add_unique_code, ct_add_unique_code, l_add_unique_code, c_add_unique_code⟩ := c.def_ 39 (d := dF_add_unique_code) (by rfl)
  have F_add_unique_code := fun_mk (st := s_add_unique_code) (x := "add_unique_code") (qual := "add_unique_code") (f := He.ga K "add_unique_code") l_add_unique_code c_add_unique_code (He.keep_ok (c.fact 99 (f := .keep "add_unique_code") (by rfl)))
  have b_add_unique_code := F_add_unique_code.binds (ps := ["schema", "step"]) fun _ _ _ _ _ _ us hl => match us, hl with | [_, _], _ => rfl
  have n_add_unique_code : Kn K mg "add_unique_code" s_add_unique_code ["schema", "step"] (He.ga K "add_unique_code") _ := ⟨F_add_unique_code, b_add_unique_code, a_add_unique_code⟩
  obtain ⟨oc_column_called, od_column_called, sl_column_called, kV_column_called, dc_column_called, pm_column_called, an_column_called, cd_column_called, ct_column_called, l_column_called, c_column_called⟩ := c.def_ 40 (d := dF_column_called) (by rfl)
  have F_column_called := fun_mk (st := s_column_called) (x := "column_called") (qual := "column_called") (f := He.ga K "column_called") l_column_called c_column_called (He.keep_ok (c.fact 100 (f := .keep "column_called") (by rfl)))
  have b_column_called := F_column_called.binds (ps := ["description", "name"]) fun _ _ _ _ _ _ us hl => match us, hl with | [_, _], _ => rfl
  have n_column_called : Kn K mg "column_called" s_column_called ["description", "name"] (He.ga K "column_called") _ := ⟨F_column_called, b_column_called, a_column_called⟩
  obtain ⟨oc_key_kind, od_key_kind, sl_key_kind, kV_key_kind, dc_key_kind, pm_key_kind, an_key_kind, cd_key_kind, ct_key_kind, l_key_kind, c_key_kind⟩ := c.def_ 41 (d := dF_key_kind) (by rfl)
  have F_key_kind := fun_mk (st := s_key_kind) (x := "key_kind") (qual := "key_kind") (f := He.ga K "key_kind") l_key_kind c_key_kind (He.keep_ok (c.fact 101 (f := .keep "key_kind") (by rfl)))
  have b_key_kind := F_key_kind.binds (ps := ["description"]) fun _ _ _ _ _ _ us hl => match us, hl with | [_], _ => rfl
  have n_key_kind : Kn K mg "key_kind" s_key_kind ["description"] (He.ga K "key_kind") _ := ⟨F_key_kind, b_key_kind, a_key_kind⟩
  obtain ⟨oc_add_reference_code, od_add_reference_code, sl_add_reference_code, kV_add_reference_code, dc_add_reference_code, pm_add_reference_code, an_add_reference_code, cd_add_reference_code, ct_add_reference_code, l_add_reference_code, c_add_reference_code⟩ := c.def_ 42 (d := dF_add_reference_code) (by rfl)
  have F_add_reference_code := fun_mk (st := s_add_reference_code) (x := "add_reference_code") (qual := "add_reference_code") (f := He.ga K "add_reference_code") l_add_reference_code c_add_reference_code (He.keep_ok (c.fact 102 (f := .keep "add_reference_code") (by rfl)))
  have b_add_reference_code := F_add_reference_code.binds (ps := ["schema", "step"]) fun _ _ _ _ _ _ us hl => match us, hl with | [_, _], _ => rfl
  have n_add_reference_code : Kn K mg "add_reference_code" s_add_reference_code ["schema", "step"] (He.ga K "add_reference_code") _ := ⟨F_add_reference_code, b_add_reference_code, a_add_reference_code⟩
  obtain ⟨oc_constraint_of, od_constraint_of, sl_constraint_of, kV_constraint_of, dc_constraint_of, pm_constraint_of, an_constraint_of, cd_constraint_of, ct_constraint_of, l_constraint_of, c_constraint_of⟩ := c.def_ 43 (d := dF_constraint_of) (by rfl)
  have F_constraint_of := fun_mk (st := s_constraint_of) (x := "constraint_of") (qual := "constraint_of") (f := He.ga K "constraint_of") l_constraint_of c_constraint_of (He.keep_ok (c.fact 103 (f := .keep "constraint_of") (by rfl)))
  have b_constraint_of := F_constraint_of.binds (ps := ["step"]) fun _ _ _ _ _ _ us hl => match us, hl with | [_], _ => rfl
  have n_constraint_of : Kn K mg "constraint_of" s_constraint_of ["step"] (He.ga K "constraint_of") _ := ⟨F_constraint_of, b_constraint_of, a_constraint_of⟩
  obtain ⟨oc_drop_code, od_drop_code, sl_drop_code, kV_drop_code, dc_drop_code, pm_drop_code, an_drop_code, cd_drop_code, ct_drop_code, l_drop_code, c_drop_code⟩ := c.def_ 44 (d := dF_drop_code) (by rfl)
  have F_drop_code := fun_mk (st := s_drop_code) (x := "drop_code") (qual := "drop_code") (f := He.ga K "drop_code") l_drop_code c_drop_code (He.keep_ok (c.fact 104 (f := .keep "drop_code") (by rfl)))
  have b_drop_code := F_drop_code.binds (ps := ["schema", "table", "part", "item"]) fun _ _ _ _ _ _ us hl => match us, hl with | [_, _, _, _], _ => rfl
  have n_drop_code : Kn K mg "drop_code" s_drop_code ["schema", "table", "part", "item"] (He.ga K "drop_code") _ := ⟨F_drop_code, b_drop_code, a_drop_code⟩
  obtain ⟨oc_limit_step_code, od_limit_step_code, sl_limit_step_code, kV_limit_step_code, dc_limit_step_code, pm_limit_step_code, an_limit_step_code, cd_limit_step_code, ct_limit_step_code, l_limit_step_code, c_limit_step_code⟩ := c.def_ 45 (d := dF_limit_step_code) (by rfl)
  have F_limit_step_code := fun_mk (st := s_limit_step_code) (x := "limit_step_code") (qual := "limit_step_code") (f := He.ga K "limit_step_code") l_limit_step_code c_limit_step_code (He.keep_ok (c.fact 105 (f := .keep "limit_step_code") (by rfl)))
  have b_limit_step_code := F_limit_step_code.binds (ps := ["schema", "step"]) fun _ _ _ _ _ _ us hl => match us, hl with | [_, _], _ => rfl
  have n_limit_step_code : Kn K mg "limit_step_code" s_limit_step_code ["schema", "step"] (He.ga K "limit_step_code") _ := ⟨F_limit_step_code, b_limit_step_code, a_limit_step_code⟩
  obtain ⟨oc_step_code, od_step_code, sl_step_code, kV_step_code, dc_step_code, pm_step_code, an_step_code, cd_step_code, ct_step_code, l_step_code, c_step_code⟩ := c.def_ 46 (d := dF_step_code) (by rfl)
  have F_step_code := fun_mk (st := s_step_code) (x := "step_code") (qual := "step_code") (f := He.ga K "step_code") l_step_code c_step_code (He.keep_ok (c.fact 106 (f := .keep "step_code") (by rfl)))
  have b_step_code := F_step_code.binds (ps := ["schema", "step"]) fun _ _ _ _ _ _ us hl => match us, hl with | [_, _], _ => rfl
  have n_step_code : Kn K mg "step_code" s_step_code ["schema", "step"] (He.ga K "step_code") _ := ⟨F_step_code, b_step_code, a_step_code⟩
  obtain ⟨oc_copy_description, od_copy_description, sl_copy_description, kV_copy_description, dc_copy_description, pm_copy_description, an_copy_description, cd_copy_description, ct_copy_description, l_copy_description, c_copy_description⟩ := c.def_ 47 (d := dF_copy_description) (by rfl)
  have F_copy_description := fun_mk (st := s_copy_description) (x := "copy_description") (qual := "copy_description") (f := He.ga K "copy_description") l_copy_description c_copy_description (He.keep_ok (c.fact 107 (f := .keep "copy_description") (by rfl)))
  have b_copy_description := F_copy_description.binds (ps := ["description"]) fun _ _ _ _ _ _ us hl => match us, hl with | [_], _ => rfl
  have n_copy_description : Kn K mg "copy_description" s_copy_description ["description"] (He.ga K "copy_description") _ := ⟨F_copy_description, b_copy_description, a_copy_description⟩
  obtain ⟨oc_copy_schema, od_copy_schema, sl_copy_schema, kV_copy_schema, dc_copy_schema, pm_copy_schema, an_copy_schema, cd_copy_schema, ct_copy_schema, l_copy_schema, c_copy_schema⟩ := c.def_ 48 (d := dF_copy_schema) (by rfl)
  have F_copy_schema := fun_mk (st := s_copy_schema) (x := "copy_schema") (qual := "copy_schema") (f := He.ga K "copy_schema") l_copy_schema c_copy_schema (He.keep_ok (c.fact 108 (f := .keep "copy_schema") (by rfl)))
  have b_copy_schema := F_copy_schema.binds (ps := ["schema"]) fun _ _ _ _ _ _ us hl => match us, hl with | [_], _ => rfl
  have n_copy_schema : Kn K mg "copy_schema" s_copy_schema ["schema"] (He.ga K "copy_schema") _ := ⟨F_copy_schema, b_copy_schema, a_copy_schema⟩
  obtain ⟨oc_limit_step_target, od_limit_step_target, sl_limit_step_target, kV_limit_step_target, dc_limit_step_target, pm_limit_step_target, an_limit_step_target, cd_limit_step_target, ct_limit_step_target, l_limit_step_target, c_limit_step_target⟩ := c.def_ 49 (d := dF_limit_step_target) (by rfl)
  have F_limit_step_target := fun_mk (st := s_limit_step_target) (x := "limit_step_target") (qual := "limit_step_target") (f := He.ga K "limit_step_target") l_limit_step_target c_limit_step_target (He.keep_ok (c.fact 109 (f := .keep "limit_step_target") (by rfl)))
  have b_limit_step_target := F_limit_step_target.binds (ps := ["schema", "step"]) fun _ _ _ _ _ _ us hl => match us, hl with | [_, _], _ => rfl
  have n_limit_step_target : Kn K mg "limit_step_target" s_limit_step_target ["schema", "step"] (He.ga K "limit_step_target") _ := ⟨F_limit_step_target, b_limit_step_target, a_limit_step_target⟩
  obtain ⟨oc_changed_schema, od_changed_schema, sl_changed_schema, kV_changed_schema, dc_changed_schema, pm_changed_schema, an_changed_schema, cd_changed_schema, ct_changed_schema, l_changed_schema, c_changed_schema⟩ := c.def_ 50 (d := dF_changed_schema) (by rfl)
  have F_changed_schema := fun_mk (st := s_changed_schema) (x := "changed_schema") (qual := "changed_schema") (f := He.ga K "changed_schema") l_changed_schema c_changed_schema (He.keep_ok (c.fact 110 (f := .keep "changed_schema") (by rfl)))
  have b_changed_schema := F_changed_schema.binds (ps := ["schema", "step"]) fun _ _ _ _ _ _ us hl => match us, hl with | [_, _], _ => rfl
  have n_changed_schema : Kn K mg "changed_schema" s_changed_schema ["schema", "step"] (He.ga K "changed_schema") _ := ⟨F_changed_schema, b_changed_schema, a_changed_schema⟩
  obtain ⟨oc_target_schema, od_target_schema, sl_target_schema, kV_target_schema, dc_target_schema, pm_target_schema, an_target_schema, cd_target_schema, ct_target_schema, l_target_schema, c_target_schema⟩ := c.def_ 51 (d := dF_target_schema) (by rfl)
  have F_target_schema := fun_mk (st := s_target_schema) (x := "target_schema") (qual := "target_schema") (f := He.ga K "target_schema") l_target_schema c_target_schema (He.keep_ok (c.fact 111 (f := .keep "target_schema") (by rfl)))
  have b_target_schema := F_target_schema.binds (ps := ["schema", "step"]) fun _ _ _ _ _ _ us hl => match us, hl with | [_, _], _ => rfl
  have n_target_schema : Kn K mg "target_schema" s_target_schema ["schema", "step"] (He.ga K "target_schema") _ := ⟨F_target_schema, b_target_schema, a_target_schema⟩
  obtain ⟨oc_law_is_integer, od_law_is_integer, sl_law_is_integer, kV_law_is_integer, dc_law_is_integer, pm_law_is_integer, an_law_is_integer, cd_law_is_integer, ct_law_is_integer, l_law_is_integer, c_law_is_integer⟩ := c.def_ 52 (d := dF_law_is_integer) (by rfl)
  have F_law_is_integer := fun_mk (st := s_law_is_integer) (x := "_law_is_integer") (qual := "_law_is_integer") (f := He.ga K "_law_is_integer") l_law_is_integer c_law_is_integer (He.keep_ok (c.fact 112 (f := .keep "_law_is_integer") (by rfl)))
  have b_law_is_integer := F_law_is_integer.binds (ps := ["actual"]) fun _ _ _ _ _ _ us hl => match us, hl with | [_], _ => rfl
  have n_law_is_integer : Kn K mg "_law_is_integer" s_law_is_integer ["actual"] (He.ga K "_law_is_integer") _ := ⟨F_law_is_integer, b_law_is_integer, a_law_is_integer⟩
  obtain ⟨oc_law_same_items, od_law_same_items, sl_law_same_items, kV_law_same_items, dc_law_same_items, pm_law_same_items, an_law_same_items, cd_law_same_items, ct_law_same_items, l_law_same_items, c_law_same_items⟩ := c.def_ 53 (d := dF_law_same_items) (by rfl)
  have F_law_same_items := fun_mk (st := s_law_same_items) (x := "_law_same_items") (qual := "_law_same_items") (f := He.ga K "_law_same_items") l_law_same_items c_law_same_items (He.keep_ok (c.fact 113 (f := .keep "_law_same_items") (by rfl)))
  have b_law_same_items := F_law_same_items.binds (ps := ["actual", "expected"]) fun _ _ _ _ _ _ us hl => match us, hl with | [_, _], _ => rfl
  have n_law_same_items : Kn K mg "_law_same_items" s_law_same_items ["actual", "expected"] (He.ga K "_law_same_items") _ := ⟨F_law_same_items, b_law_same_items, a_law_same_items⟩
  obtain ⟨oc_law_same, od_law_same, sl_law_same, kV_law_same, dc_law_same, pm_law_same, an_law_same, cd_law_same, ct_law_same, l_law_same, c_law_same⟩ := c.def_ 54 (d := dF_law_same) (by rfl)
  have F_law_same := fun_mk (st := s_law_same) (x := "_law_same") (qual := "_law_same") (f := He.ga K "_law_same") l_law_same c_law_same (He.keep_ok (c.fact 114 (f := .keep "_law_same") (by rfl)))
  have b_law_same := F_law_same.binds (ps := ["actual", "expected"]) fun _ _ _ _ _ _ us hl => match us, hl with | [_, _], _ => rfl
  have n_law_same : Kn K mg "_law_same" s_law_same ["actual", "expected"] (He.ga K "_law_same") _ := ⟨F_law_same, b_law_same, a_law_same⟩
  obtain ⟨oc_law, od_law, sl_law, kV_law, dc_law, pm_law, an_law, cd_law, ct_law, l_law, c_law⟩ := c.def_ 55 (d := dF_law) (by rfl)
  have F_law := fun_mk (st := s_law) (x := "law") (qual := "law") (f := He.ga K "law") l_law c_law (He.keep_ok (c.fact 115 (f := .keep "law") (by rfl)))
  have b_law := F_law.binds (ps := ["script"]) fun _ _ _ _ _ _ us hl => match us, hl with | [_], _ => rfl
  have n_law : Kn K mg "law" s_law ["script"] (He.ga K "law") _ := ⟨F_law, b_law, a_law⟩
  unfold exL at ex
  obtain ⟨x0, ex⟩ := He.ba ex
  obtain ⟨x1, ex⟩ := He.ba ex
  obtain ⟨x2, ex⟩ := He.ba ex
  obtain ⟨x3, ex⟩ := He.ba ex
  have z : Z K mg := ⟨He.free_ok X G (c.fact 116 (f := .free "abs") (by rfl)), He.free_ok X G (c.fact 117 (f := .free "int") (by rfl)), He.free_ok X G (c.fact 118 (f := .free "len") (by rfl)), He.free_ok X G (c.fact 119 (f := .free "range") (by rfl)), He.free_ok X G (c.fact 120 (f := .free "list") (by rfl)), He.free_ok X G (c.fact 121 (f := .free "str") (by rfl)), He.free_ok X G (c.fact 122 (f := .free "tuple") (by rfl)), He.free_ok X G (c.fact 123 (f := .free "sorted") (by rfl)), He.free_ok X G (c.fact 124 (f := .free "isinstance") (by rfl)), He.free_ok X G (c.fact 125 (f := .free "dict") (by rfl)), He.free_ok X G (c.fact 126 (f := .free "ord") (by rfl)), He.free_ok X G (c.fact 127 (f := .free "all") (by rfl)), He.free_ok X G (c.fact 128 (f := .free "bool") (by rfl)), He.free_ok X G (c.fact 129 (f := .free "any") (by rfl)), He.int_ok X G (c.fact 130 (f := .int "PERCENT_CODE" 37) (by rfl)), He.int_ok X G (c.fact 131 (f := .int "LAST_CODE" 126) (by rfl)), He.int_ok X G (c.fact 132 (f := .int "FIRST_CODE" 32) (by rfl)), He.int_ok X G (c.fact 133 (f := .int "MOST_CHARACTERS" 30) (by rfl)), He.int_ok X G (c.fact 134 (f := .int "GREATEST" 999999999) (by rfl)), He.int_ok X G (c.fact 135 (f := .int "LEAST" (-999999999)) (by rfl)), He.int_ok X G (c.fact 136 (f := .int "MOST_LIMITS" 4) (by rfl)), ⟨_, He.glo_ok X G (c.fact 57 (f := .glo "COLUMN_KINDS") (by rfl)), fun H => He.tupB_ok x1 H⟩, ⟨_, He.glo_ok X G (c.fact 58 (f := .glo "TABLE_KINDS") (by rfl)), fun H => He.tupB_ok x2 H⟩, ⟨_, He.glo_ok X G (c.fact 59 (f := .glo "GROUP_KINDS") (by rfl)), fun H => He.tupB_ok x3 H⟩⟩
  obtain ⟨x_StepError, kI_StepError⟩ := errB_ok x0 (He.glo_ok X G (c.fact 56 (f := .glo "StepError") (by rfl)))
  obtain ⟨oc_StepError, od_StepError, sl_StepError, kV_StepError, dc_StepError, pm_StepError, an_StepError, cd_StepError, ct_StepError, l_StepError, c_StepError⟩ := c.def_ 56 (d := dF_StepError) (by rfl)
  have F_StepError := fun_mk (st := s_StepError) (x := "__init__") (qual := "StepError.__init__") (f := He.ma K (He.ga K "StepError") "__init__") l_StepError c_StepError kI_StepError
  have b_StepError := F_StepError.binds (ps := ["self", "code", "index"]) fun _ _ _ _ _ _ us hl => match us, hl with | [_, _, _], _ => rfl
  refine ⟨PySem.W.fnOf "law" "law" (defArgs s_law) (defBody s_law) (defScope s_law) .none kV_law dc_law pm_law an_law cd_law ct_law, fun s v => .of_eq rfl, fun base _ _ => ?_⟩
  have e_StepError : ErrK l.prog w K mg base "StepError" "code" "index" (He.ga K "StepError") (He.ma K (He.ga K "StepError") "__init__") _ := ⟨x_StepError, init_StepError F_StepError, b_StepError⟩
  have o_law_tape := ok_law_tape (P := l.prog) (w := w) (base := base) n_law_tape z 
  have o_law_take := ok_law_take (P := l.prog) (w := w) (base := base) n_law_take z 
  have o_law_name := ok_law_name (P := l.prog) (w := w) (base := base) n_law_name z o_law_take
  have o_law_table := ok_law_table (P := l.prog) (w := w) (base := base) n_law_table z 
  have o_law_columns := ok_law_columns (P := l.prog) (w := w) (base := base) n_law_columns z o_law_take o_law_name
  have o_law_names := ok_law_names (P := l.prog) (w := w) (base := base) n_law_names z 
  have o_law_integer := ok_law_integer (P := l.prog) (w := w) (base := base) n_law_integer z o_law_take
  have o_law_char := ok_law_char (P := l.prog) (w := w) (base := base) n_law_char z o_law_take
  have o_law_text := ok_law_text (P := l.prog) (w := w) (base := base) n_law_text z o_law_take o_law_char
  have o_law_value := ok_law_value (P := l.prog) (w := w) (base := base) n_law_value z o_law_take o_law_integer o_law_text
  have o_law_clause := ok_law_clause (P := l.prog) (w := w) (base := base) n_law_clause z o_law_take o_law_value
  have o_law_condition := ok_law_condition (P := l.prog) (w := w) (base := base) n_law_condition z o_law_take o_law_clause
  have o_law_limits := ok_law_limits (P := l.prog) (w := w) (base := base) n_law_limits z o_law_names o_law_take o_law_condition
  have o_law_schema := ok_law_schema (P := l.prog) (w := w) (base := base) n_law_schema z o_law_take o_law_name o_law_table o_law_columns o_law_limits
  have o_law_pick := ok_law_pick (P := l.prog) (w := w) (base := base) n_law_pick z o_law_take
  have o_law_limit_step := ok_law_limit_step (P := l.prog) (w := w) (base := base) n_law_limit_step z o_law_names o_law_pick o_law_condition
  have o_law_step := ok_law_step (P := l.prog) (w := w) (base := base) n_law_step z o_law_take o_law_pick o_law_limit_step
  have o_law_copy := ok_law_copy (P := l.prog) (w := w) (base := base) n_law_copy z 9
  have o_law_condition_fits := ok_law_condition_fits (P := l.prog) (w := w) (base := base) n_law_condition_fits z 
  have o_law_leads := ok_law_leads (P := l.prog) (w := w) (base := base) n_law_leads z 
  have o_law_check := ok_law_check (P := l.prog) (w := w) (base := base) n_law_check z o_law_condition_fits o_law_leads
  have o_law_found := ok_law_found (P := l.prog) (w := w) (base := base) n_law_found z 
  have o_law_unique := ok_law_unique (P := l.prog) (w := w) (base := base) n_law_unique z o_law_found o_law_leads
  have o_law_reference := ok_law_reference (P := l.prog) (w := w) (base := base) n_law_reference z o_law_found o_law_leads
  have o_law_expected := ok_law_expected (P := l.prog) (w := w) (base := base) n_law_expected z o_law_copy o_law_check o_law_unique o_law_reference
  have o_kind_of := ok_kind_of (P := l.prog) (w := w) (base := base) n_kind_of z 
  have o_is_text_code := ok_is_text_code (P := l.prog) (w := w) (base := base) n_is_text_code z 
  have o_is_text_character := ok_is_text_character (P := l.prog) (w := w) (base := base) n_is_text_character z o_is_text_code
  have o_is_text := ok_is_text (P := l.prog) (w := w) (base := base) n_is_text z o_is_text_character
  have o_is_value := ok_is_value (P := l.prog) (w := w) (base := base) n_is_value z o_is_text
  have o_fits_kind := ok_fits_kind (P := l.prog) (w := w) (base := base) n_fits_kind z o_kind_of o_is_value
  have o_clause_fits := ok_clause_fits (P := l.prog) (w := w) (base := base) n_clause_fits z o_fits_kind
  have o_fits := ok_fits (P := l.prog) (w := w) (base := base) n_fits z o_clause_fits
  have o_is_referenced := ok_is_referenced (P := l.prog) (w := w) (base := base) n_is_referenced z 
  have o_full_code := ok_full_code (P := l.prog) (w := w) (base := base) n_full_code z o_is_referenced
  have o_add_check_code := ok_add_check_code (P := l.prog) (w := w) (base := base) n_add_check_code z o_fits o_full_code
  have o_column_names := ok_column_names (P := l.prog) (w := w) (base := base) n_column_names z 
  have o_lacks := ok_lacks (P := l.prog) (w := w) (base := base) n_lacks z o_column_names
  have o_key_name := ok_key_name (P := l.prog) (w := w) (base := base) n_key_name z 
  have o_add_unique_code := ok_add_unique_code (P := l.prog) (w := w) (base := base) n_add_unique_code z o_lacks o_key_name o_full_code
  have o_column_called := ok_column_called (P := l.prog) (w := w) (base := base) n_column_called z o_column_names
  have o_key_kind := ok_key_kind (P := l.prog) (w := w) (base := base) n_key_kind z 
  have o_add_reference_code := ok_add_reference_code (P := l.prog) (w := w) (base := base) n_add_reference_code z o_lacks o_key_name o_column_called o_key_kind o_full_code
  have o_constraint_of := ok_constraint_of (P := l.prog) (w := w) (base := base) n_constraint_of z 
  have o_drop_code := ok_drop_code (P := l.prog) (w := w) (base := base) n_drop_code z o_is_referenced
  have o_limit_step_code := ok_limit_step_code (P := l.prog) (w := w) (base := base) n_limit_step_code z o_add_check_code o_add_unique_code o_add_reference_code o_constraint_of o_drop_code
  have o_step_code := ok_step_code (P := l.prog) (w := w) (base := base) n_step_code z o_limit_step_code
  have o_copy_description := ok_copy_description (P := l.prog) (w := w) (base := base) n_copy_description z 
  have o_copy_schema := ok_copy_schema (P := l.prog) (w := w) (base := base) n_copy_schema z o_copy_description
  have o_limit_step_target := ok_limit_step_target (P := l.prog) (w := w) (base := base) n_limit_step_target z o_copy_schema o_constraint_of
  have o_changed_schema := ok_changed_schema (P := l.prog) (w := w) (base := base) n_changed_schema z o_limit_step_target
  have o_target_schema := ok_target_schema (P := l.prog) (w := w) (base := base) n_target_schema z e_StepError o_step_code o_changed_schema
  have o_hot_law_is_integer := ok_hot_law_is_integer (P := l.prog) (w := w) (base := base) n_law_is_integer z 
  have o_hot_law_same := ok_hot_law_same (P := l.prog) (w := w) (base := base) n_law_same z o_hot_law_is_integer
  have o_law_is_integer := ok_law_is_integer (P := l.prog) (w := w) (base := base) n_law_is_integer z 
  have _ := True.intro
  have o_law_same := ok_law_same (P := l.prog) (w := w) (base := base) n_law_same n_law_same_items z o_law_is_integer 9
  have o_law := ok_law (P := l.prog) (w := w) (base := base) n_law z e_StepError o_law_tape o_law_schema o_law_take o_law_step o_law_copy o_law_expected o_target_schema o_hot_law_same o_law_same
  exact o_law.G
end Lt
open PySem PySem.W PySem.Calls PyProof.Rows
set_option maxRecDepth 100000 in
set_option maxHeartbeats 0 in
theorem PySem.Challenge.cw_lenstree_k14_limit_step_schemas_holds : PySem.Challenge.rw_lenstree_k14_limit_step_schemas.Holds := by
  w_on; o_law
  refine HandSHeadRun.head_any (r := OpenLaw.row PySem.Challenge.rw_lenstree_k14_limit_step_schemas) (q := view (OpenLaw.row PySem.Challenge.rw_lenstree_k14_limit_step_schemas).prog [161]) (H := Lt.hkL) (ob := Lt.obN) (M := 20000) (loose := Lt.looseL) (d := HandSHeadRun.topDef (OpenLaw.row PySem.Challenge.rw_lenstree_k14_limit_step_schemas).prog 161) (kwd := []) Lt.obN_eq (by kernel_rfl) (fun s => by kernel_rfl) Lt.runL (by kernel_rfl) (by kernel_rfl) (by kernel_rfl) (by rfl) (by first | assumption | decide +kernel) (by decide +kernel) ⟨rfl, rfl, rfl, rfl, rfl, by decide +kernel⟩ ?hw ?hc
  case hw => w_witness2
  case hc =>
    refine L2.walk_ofE (l := PySem.Challenge.rw_lenstree_k14_limit_step_schemas) (n := 63) (k := 19) (x := "script") (CX := L2.CX0) rfl (by decide) (by kernel_rfl) ⟨rfl, by decide, by decide⟩ ?F (fun _ _ _ _ z => z)
    intro w mg fa h Y G hmg0
    obtain ⟨K, KX, c, ex⟩ := Y
    have hmg : mg ("law" : PySem.Str) = some (.ref fa) := by
      have e : (HandSHeadRun.topDef (OpenLaw.row PySem.Challenge.rw_lenstree_k14_limit_step_schemas).prog 161).name = ("law" : PySem.Str) := by kernel_rfl
      rw [← e]
      exact hmg0
    obtain ⟨fd, hb, hF⟩ := Lt.all_mkF (l := PySem.Challenge.rw_lenstree_k14_limit_step_schemas) (w := w) KX G hmg c ex
    exact ⟨K, fd, Lt.spLaw K, KX, hb, fun H a ns hl _ hS => ⟨a, ns, rfl, hS, hl, fun _ => rfl⟩, hF⟩
#print axioms PySem.Challenge.cw_lenstree_k14_limit_step_schemas_holds
