import PyProof.Rows.All
import Wide.All
import OpenK.AllK
import Wide.FinOn
import HandS.ForMost
import HandS.Wide
import HandS.IsInst
import HandS.Flow
import HandS.Codes
import HandS.StrMore
import HandS.Walk
import HandS.Style
import HandS.Exc
import HandS.DictComp
import HandS.TupAny
import HandS.More
import HandS.SortInts
import PySem.Challenge.RW_lenstree_k09_first_fault
set_option Elab.async false
set_option linter.all false
set_option maxRecDepth 100000
set_option maxHeartbeats 4000000
set_option autoImplicit false
set_option autoImplicit false
namespace Lt
open PySem L2 TL
open C8 (pss_cut)
/-! ## what every law of Lenstree leans on -/
/-- a def that has been walked: how it is called -/
structure Cal (P : Program) (w : World) (K : PySem.W.Frag) (mg : Str → Option Value) (base : Heap) (n : Nat) (x : Str) (ps : List Str) (sp : Sp) (g : Addr) (gd : FuncData) : Prop where
  G : FnOk P w K mg base CX0 n g gd ps sp
  m : mg x = some (.ref g)
  kp : PySem.W.keepIn K (.ref g) = true
  b : Binds K gd ps []
/-- a def as the top has made it -/
structure Kn (K : PySem.W.Frag) (mg : Str → Option Value) (x : Str) (st : Stmt) (ps : List Str) (g : Addr) (gd : FuncData) : Prop where
  F : Fun K x x st g gd
  b : Binds K gd ps []
  m : mg x = some (.ref g)
theorem Kn.cal {P : Program} {w : World} {K : PySem.W.Frag} {mg : Str → Option Value} {base : Heap} {n : Nat} {x : Str} {st : Stmt} {ps : List Str} {sp : Sp} {g : Addr} {gd : FuncData}
    (k : Kn K mg x st ps g gd) (G : FnOk P w K mg base CX0 n g gd ps sp) : Cal P w K mg base n x ps sp g gd := ⟨G, k.m, k.F.kp, k.b⟩

/-! ### heaps that differ at one place -/
def SameX (t : Addr) (H H' : Hp) : Prop := ∀ b o, H b = some o → b ≠ t → H' b = some o
theorem SameX.refl (t : Addr) (H : Hp) : SameX t H H := fun _ _ h _ => h
theorem SameX.trans {t : Addr} {H H1 H2 : Hp} (a : SameX t H H1) (b : SameX t H1 H2) : SameX t H H2 := fun c o h n => b c o (a c o h n) n
theorem SameX.of {t : Addr} {H H1 : Hp} (a : Same H H1) : SameX t H H1 := fun c o h _ => a c o h
theorem SameX.upd {t : Addr} {H : Hp} (o : HO) : SameX t H (upd H t o) := fun b u h n => by rw [upd_ne n]; exact h
theorem same_new {H : Hp} {p : Addr} (h : H p = none) (o : HO) : Same H (upd H p o) := fun b u q => by rw [upd_ne (ne_of_none q h)]; exact q
theorem SameX.free {t : Addr} {H H' : Hp} (e : SameX t H H') {l : Addr} (hl : l ≠ t) (h : H' l = none) : H l = none := by
  cases q : H l with
  | none => rfl
  | some o => rw [e l o q hl] at h; cases h

theorem iteDT {c A B : Prop} [Decidable c] (hc : c) (h : A) : if decide c = true then A else B := by
  rw [decide_eq_true hc]; exact iteT h
theorem iteDF {c A B : Prop} [Decidable c] (hc : ¬ c) (h : B) : if decide c = true then A else B := by
  rw [decide_eq_false hc]; exact iteF h
theorem iteNF {c A B : Prop} [Decidable c] (hc : ¬ c) (h : A) : if (!decide c) = true then A else B := by
  rw [decide_eq_false hc]; exact iteT h
theorem ifD {c A B : Prop} [Decidable c] (h1 : c → A) (h2 : ¬ c → B) : if decide c = true then A else B := by
  by_cases h : c
  · exact iteDT h (h1 h)
  · exact iteDF h (h2 h)
theorem ifN {c A B : Prop} [Decidable c] (h1 : ¬ c → A) (h2 : c → B) : if (!decide c) = true then A else B := by
  by_cases h : c
  · exact iteNS h (h2 h)
  · exact iteNF h (h1 h)
theorem bl_T {c : Prop} [Decidable c] {Q : VK} {H : Hp} (hc : c) (h : Q (.bl true) H) : Q (.bl (decide c)) H := by rw [decide_eq_true hc]; exact h
theorem bl_F {c : Prop} [Decidable c] {Q : VK} {H : Hp} (hc : ¬ c) (h : Q (.bl false) H) : Q (.bl (decide c)) H := by rw [decide_eq_false hc]; exact h
theorem int_at {ns : List Int} {i : Nat} {x : V} (h : (ns.map V.int)[i]? = some x) : ∃ z, x = V.int z ∧ ns[i]? = some z := by
  rw [List.getElem?_map] at h
  cases e : ns[i]? with
  | none => rw [e] at h; cases h
  | some z => rw [e] at h; exact ⟨z, (Option.some.inj h).symm, rfl⟩
theorem same_upd {H H1 : Hp} {p : Addr} (h : H p = none) (o : HO) (e : Same H H1) : Same H (upd H1 p o) := fun b u q => by rw [upd_ne (ne_of_none q h)]; exact e _ _ q
theorem samex_upd {t : Addr} {H H1 : Hp} {p : Addr} (h : H p = none) (o : HO) (e : SameX t H H1) : SameX t H (upd H1 p o) := fun b u q n => by rw [upd_ne (ne_of_none q h)]; exact e _ _ q n
/-- isinstance(x, T) -/
theorem isi {K : PySem.W.Frag} {H : Hp} {Q : VK} {x : V} {a b : String} (r : Bool) (hT : TyX K H x (.type a)) (h : kitB a b = some r) (q : Q (.bl r) H) : rIsi K [x, .ty b] H Q :=
  ⟨_, _, _, _, r, rfl, .ty _, hT, kit_ty h, q⟩
/-- xs[i] of a list or a tuple -/
theorem ixq {K : PySem.W.Frag} {H : Hp} {Q : VK} {a : Addr} {xs : List V} {i : Int} {v : V} (h : SqL K H a xs ∨ SqT K H a xs) (e : atI xs i = some v) (q : Q v H) : rIx K (.ref a) (.int i) H Q := by
  rcases h with h | h
  · exact .inl ⟨a, xs, i, v, rfl, rfl, h, e, q⟩
  · exact .inr (.inl ⟨a, xs, i, v, rfl, rfl, h, e, q⟩)
theorem at_in {α : Type} {xs : List α} {i : Int} (h0 : 0 ≤ i) (h1 : i < xs.length) : ∃ v, atI xs i = some v ∧ v ∈ xs := by
  have hk : i.toNat < xs.length := by omega
  refine ⟨xs[i.toNat], ?_, List.getElem_mem hk⟩
  have e : i = ((i.toNat : Nat) : Int) := by omega
  have q : atI xs ((i.toNat : Nat) : Int) = some xs[i.toNat] := atI_nat (List.getElem?_eq_getElem hk)
  rw [← e] at q
  exact q
/-! ### texts -/
def one (c : Nat) : Str := ⟨#[c]⟩
def chOk (c : Nat) : Prop := 32 ≤ c ∧ c ≤ 126 ∧ c ≠ 37
instance (c : Nat) : Decidable (chOk c) := by unfold chOk; exact inferInstance
theorem tl_one (c : Nat) : tl (one c) = [c] := rfl
theorem join_ones : ∀ chs : List Nat, joinL [] ((chs.map one).map tl) = chs
  | [] => rfl
  | [c] => rfl
  | c :: d :: r => by
    have q := join_ones (d :: r)
    show [c] ++ ([] ++ joinL [] (((d :: r).map one).map tl)) = c :: d :: r
    rw [q]; rfl
theorem strOk_of {x : Str} (h : ∀ c ∈ tl x, chOk c) : PyData.strOk x = true := by
  unfold PyData.strOk
  rw [← Array.all_toList, List.all_eq_true]
  intro c hc
  have := h c hc
  unfold chOk at this
  exact decide_eq_true (by omega)
theorem tl_empty : tl ("" : Str) = [] := by decide +kernel
theorem tl_joined (chs : List Nat) : tl (Txt.join ("" : Str) (chs.map one)) = chs := by
  rw [join_eq, tl_join, tl_empty, join_ones]
theorem len_joined (chs : List Nat) : (Txt.join ("" : Str) (chs.map one)).length = chs.length := by rw [len_tl, tl_joined]
theorem sum_ones (chs : List Nat) : ((chs.map one).map (·.length)).sum = chs.length := by
  induction chs with
  | nil => rfl
  | cons c r ih => rw [List.map_cons, List.map_cons, List.sum_cons, ih, List.length_cons]; show 1 + r.length = r.length + 1; omega
/-! ### the tape that a law draws from -/
theorem s_cells_at : ¬ ("cells" : Str) = ("at" : Str) := by decide +kernel
theorem n_cells_at : ¬ (Sum.inr ("cells" : Str) : Key) = Sum.inr ("at" : Str) := fun e => s_cells_at (Sum.inr.inj e)
theorem s_cells_left : ¬ ("cells" : Str) = ("left" : Str) := by decide +kernel
theorem n_cells_left : ¬ (Sum.inr ("cells" : Str) : Key) = Sum.inr ("left" : Str) := fun e => s_cells_left (Sum.inr.inj e)
theorem s_cells_seed : ¬ ("cells" : Str) = ("seed" : Str) := by decide +kernel
theorem n_cells_seed : ¬ (Sum.inr ("cells" : Str) : Key) = Sum.inr ("seed" : Str) := fun e => s_cells_seed (Sum.inr.inj e)
theorem s_cells_salt : ¬ ("cells" : Str) = ("salt" : Str) := by decide +kernel
theorem n_cells_salt : ¬ (Sum.inr ("cells" : Str) : Key) = Sum.inr ("salt" : Str) := fun e => s_cells_salt (Sum.inr.inj e)
theorem s_at_cells : ¬ ("at" : Str) = ("cells" : Str) := by decide +kernel
theorem s_at_left : ¬ ("at" : Str) = ("left" : Str) := by decide +kernel
theorem n_at_left : ¬ (Sum.inr ("at" : Str) : Key) = Sum.inr ("left" : Str) := fun e => s_at_left (Sum.inr.inj e)
theorem s_at_seed : ¬ ("at" : Str) = ("seed" : Str) := by decide +kernel
theorem n_at_seed : ¬ (Sum.inr ("at" : Str) : Key) = Sum.inr ("seed" : Str) := fun e => s_at_seed (Sum.inr.inj e)
theorem s_at_salt : ¬ ("at" : Str) = ("salt" : Str) := by decide +kernel
theorem n_at_salt : ¬ (Sum.inr ("at" : Str) : Key) = Sum.inr ("salt" : Str) := fun e => s_at_salt (Sum.inr.inj e)
theorem s_left_cells : ¬ ("left" : Str) = ("cells" : Str) := by decide +kernel
theorem s_left_at : ¬ ("left" : Str) = ("at" : Str) := by decide +kernel
theorem s_left_seed : ¬ ("left" : Str) = ("seed" : Str) := by decide +kernel
theorem n_left_seed : ¬ (Sum.inr ("left" : Str) : Key) = Sum.inr ("seed" : Str) := fun e => s_left_seed (Sum.inr.inj e)
theorem s_left_salt : ¬ ("left" : Str) = ("salt" : Str) := by decide +kernel
theorem n_left_salt : ¬ (Sum.inr ("left" : Str) : Key) = Sum.inr ("salt" : Str) := fun e => s_left_salt (Sum.inr.inj e)
theorem s_seed_cells : ¬ ("seed" : Str) = ("cells" : Str) := by decide +kernel
theorem s_seed_at : ¬ ("seed" : Str) = ("at" : Str) := by decide +kernel
theorem s_seed_left : ¬ ("seed" : Str) = ("left" : Str) := by decide +kernel
theorem s_seed_salt : ¬ ("seed" : Str) = ("salt" : Str) := by decide +kernel
theorem n_seed_salt : ¬ (Sum.inr ("seed" : Str) : Key) = Sum.inr ("salt" : Str) := fun e => s_seed_salt (Sum.inr.inj e)
theorem s_salt_cells : ¬ ("salt" : Str) = ("cells" : Str) := by decide +kernel
theorem s_salt_at : ¬ ("salt" : Str) = ("at" : Str) := by decide +kernel
theorem s_salt_left : ¬ ("salt" : Str) = ("left" : Str) := by decide +kernel
theorem s_salt_seed : ¬ ("salt" : Str) = ("seed" : Str) := by decide +kernel
def tk (c : Addr) (a l s m : Int) : List (Key × V) := [(Sum.inr "cells", .ref c), (Sum.inr "at", .int a), (Sum.inr "left", .int l), (Sum.inr "seed", .int s), (Sum.inr "salt", .int m)]
section
variable (c : Addr) (a l s m x : Int)
theorem tk_cells : valV (tk c a l s m) (Sum.inr ("cells" : Str) : Key) = some (.ref c) := valV_pos rfl
theorem tk_at : valV (tk c a l s m) (Sum.inr ("at" : Str) : Key) = some (.int a) := by unfold tk; rw [valV_neg n_cells_at, valV_pos rfl]
theorem tk_left : valV (tk c a l s m) (Sum.inr ("left" : Str) : Key) = some (.int l) := by unfold tk; rw [valV_neg n_cells_left, valV_neg n_at_left, valV_pos rfl]
theorem tk_seed : valV (tk c a l s m) (Sum.inr ("seed" : Str) : Key) = some (.int s) := by unfold tk; rw [valV_neg n_cells_seed, valV_neg n_at_seed, valV_neg n_left_seed, valV_pos rfl]
theorem tk_salt : valV (tk c a l s m) (Sum.inr ("salt" : Str) : Key) = some (.int m) := by unfold tk; rw [valV_neg n_cells_salt, valV_neg n_at_salt, valV_neg n_left_salt, valV_neg n_seed_salt, valV_pos rfl]
theorem put_at : putK (tk c a l s m) (Sum.inr ("at" : Str) : Key) (.int x) = tk c x l s m := by
  simp [putK, tk, s_at_cells, s_cells_at, s_at_left, s_left_at, s_at_seed, s_seed_at, s_at_salt, s_salt_at]
theorem put_left : putK (tk c a l s m) (Sum.inr ("left" : Str) : Key) (.int x) = tk c a x s m := by
  simp [putK, tk, s_left_cells, s_cells_left, s_left_at, s_at_left, s_left_seed, s_seed_left, s_left_salt, s_salt_left]
theorem put_salt : putK (tk c a l s m) (Sum.inr ("salt" : Str) : Key) (.int x) = tk c a l s x := by
  simp [putK, tk, s_salt_cells, s_cells_salt, s_salt_at, s_at_salt, s_salt_left, s_left_salt, s_salt_seed, s_seed_salt]
end
theorem merge_tk (c : Addr) (a l s m : Int) : mergeK [] (tk c a l s m) = tk c a l s m := by
  simp [mergeK, putK, tk, s_cells_at, s_cells_left, s_cells_seed, s_cells_salt, s_at_left, s_at_seed, s_at_salt, s_left_seed, s_left_salt, s_seed_salt]
structure TapeAt (H : Hp) (t c : Addr) (cs : List Int) : Prop where
  dk : ∃ a l s m : Int, H t = some (.dK (tk c a l s m)) ∧ 0 ≤ a ∧ 0 ≤ l
  ls : H c = some (.lst (cs.map V.int))
  nn : ∀ x ∈ cs, (0 : Int) ≤ x
theorem TapeAt.ne {H : Hp} {t c : Addr} {cs : List Int} (T : TapeAt H t c cs) : c ≠ t := by
  obtain ⟨a, l, s, m, h, _⟩ := T.dk
  exact ne_of T.ls h (by intro z; cases z)
theorem TapeAt.mono {H H' : Hp} {t c : Addr} {cs : List Int} (T : TapeAt H t c cs) (e : Same H H') : TapeAt H' t c cs := by
  obtain ⟨a, l, s, m, h, h1, h2⟩ := T.dk
  exact ⟨⟨a, l, s, m, e _ _ h, h1, h2⟩, e _ _ T.ls, T.nn⟩
theorem TapeAt.upd {H : Hp} {t c D : Addr} {cs : List Int} {o : HO} (T : TapeAt H t c cs) (h1 : D ≠ t) (h2 : c ≠ D) : TapeAt (upd H D o) t c cs := by
  obtain ⟨a, l, s, m, h, k1, k2⟩ := T.dk
  exact ⟨⟨a, l, s, m, by rw [upd_ne h1.symm]; exact h, k1, k2⟩, by rw [upd_ne h2]; exact T.ls, T.nn⟩
theorem tk_len {c : Addr} {a l s m : Int} : (tk c a l s m).length < sizeLine := by show 5 < sizeLine; decide
section
variable {H : Hp} {t c : Addr} {a l s m : Int}
theorem d_cells (h : H t = some (.dK (tk c a l s m))) : DGet H t (.str "cells") (some (.ref c)) := by have g := DGet.k (k := (Sum.inr ("cells" : Str) : Key)) h; rw [tk_cells] at g; exact g
theorem d_at (h : H t = some (.dK (tk c a l s m))) : DGet H t (.str "at") (some (.int a)) := by have g := DGet.k (k := (Sum.inr ("at" : Str) : Key)) h; rw [tk_at] at g; exact g
theorem d_left (h : H t = some (.dK (tk c a l s m))) : DGet H t (.str "left") (some (.int l)) := by have g := DGet.k (k := (Sum.inr ("left" : Str) : Key)) h; rw [tk_left] at g; exact g
theorem d_seed (h : H t = some (.dK (tk c a l s m))) : DGet H t (.str "seed") (some (.int s)) := by have g := DGet.k (k := (Sum.inr ("seed" : Str) : Key)) h; rw [tk_seed] at g; exact g
theorem d_salt (h : H t = some (.dK (tk c a l s m))) : DGet H t (.str "salt") (some (.int m)) := by have g := DGet.k (k := (Sum.inr ("salt" : Str) : Key)) h; rw [tk_salt] at g; exact g
theorem p_at (h : H t = some (.dK (tk c a l s m))) (x : Int) : DPut H t (.str "at") (.int x) (upd H t (.dK (tk c x l s m))) := by have g := DPut.k (k := (Sum.inr ("at" : Str) : Key)) (v := .int x) h tk_len; rw [put_at] at g; exact g
theorem p_left (h : H t = some (.dK (tk c a l s m))) (x : Int) : DPut H t (.str "left") (.int x) (upd H t (.dK (tk c a x s m))) := by have g := DPut.k (k := (Sum.inr ("left" : Str) : Key)) (v := .int x) h tk_len; rw [put_left] at g; exact g
theorem p_salt (h : H t = some (.dK (tk c a l s m))) (x : Int) : DPut H t (.str "salt") (.int x) (upd H t (.dK (tk c a l s x))) := by have g := DPut.k (k := (Sum.inr ("salt" : Str) : Key)) (v := .int x) h tk_len; rw [put_salt] at g; exact g
end
/-- _law_tape -/
def spTape (K : PySem.W.Frag) : Sp := fun vs H Q _ => ∃ (a : Addr) (ns : List Int), vs = [.ref a] ∧ SqL K H a (ns.map V.int) ∧ ns.length ≤ 63 ∧
  ∀ t c cs H', TapeAt H' t c cs → Same H H' → H t = none → Q (.ref t) H'
/-- _law_take -/
def spTake : Sp := fun vs H Q _ => ∃ (t c : Addr) (cs : List Int) (many : Int), vs = [.ref t, .int many] ∧ TapeAt H t c cs ∧ 0 < many ∧ many.natAbs < 2 ^ 9000 ∧
  ∀ d H', 0 ≤ d → d < many → TapeAt H' t c cs → SameX t H H' → Q (.int d) H'

/-! ### two pieces of data that are the same -/
def isScal : V → Bool
  | .non => true
  | .bl _ => true
  | .int _ => true
  | .str _ => true
  | _ => false
/-- x and y are the same data, nested less than n deep -/
def SameV (K : PySem.W.Frag) (H : Hp) : Nat → V → V → Prop
  | 0, _, _ => False
  | n + 1, x, y => (x = y ∧ isScal x = true) ∨
      (∃ (a b : Addr) (xs ys : List V), x = .ref a ∧ y = .ref b ∧ H a = some (.lst xs) ∧ H b = some (.lst ys) ∧ xs.length = ys.length ∧ xs.length ≤ 1000 ∧ ∀ (i : Nat) (u v : V), xs[i]? = some u → ys[i]? = some v → SameV K H n u v) ∨
      (∃ (a b : Addr) (xs ys : List V), x = .ref a ∧ y = .ref b ∧ H a = some (.tup xs) ∧ H b = some (.tup ys) ∧ xs.length = ys.length ∧ xs.length ≤ 1000 ∧ ∀ (i : Nat) (u v : V), xs[i]? = some u → ys[i]? = some v → SameV K H n u v)
theorem SameV.sc {K : PySem.W.Frag} {H : Hp} {n : Nat} {x : V} (h : isScal x = true) : SameV K H (n + 1) x x := Or.inl ⟨rfl, h⟩
/-- _law_same, for data that are the same -/
def spSame (K : PySem.W.Frag) (n : Nat) : Sp := fun vs H Q _ => ∃ x y, vs = [x, y] ∧ SameV K H n x y ∧ Q (.bl true) H
def spItems (K : PySem.W.Frag) (n : Nat) : Sp := fun vs H Q _ => ∃ (a b : Addr) (xs ys : List V), vs = [.ref a, .ref b] ∧ ((H a = some (.lst xs) ∧ H b = some (.lst ys)) ∨ (H a = some (.tup xs) ∧ H b = some (.tup ys))) ∧ xs.length = ys.length ∧ xs.length ≤ 1000 ∧
  (∀ (i : Nat) (u v : V), xs[i]? = some u → ys[i]? = some v → SameV K H n u v) ∧ Q (.bl true) H
def spIsInt : Sp := fun vs H Q _ => ∃ x, vs = [x] ∧ isScal x = true ∧ Q (.bl (match x with | .int _ => true | _ => false)) H
theorem ty_scal {K : PySem.W.Frag} {H : Hp} {x : V} (h : isScal x = true) : ∃ t : String, TyX K H x (.type t) ∧ (x = .non ∧ t = "NoneType" ∨ (∃ b, x = .bl b) ∧ t = "bool" ∨ (∃ i, x = .int i) ∧ t = "int" ∨ (∃ z, x = .str z) ∧ t = "str") := by
  cases x with
  | non => exact ⟨_, .base .non, .inl ⟨rfl, rfl⟩⟩
  | bl b => exact ⟨_, .base (.bl b), .inr (.inl ⟨⟨b, rfl⟩, rfl⟩)⟩
  | int i => exact ⟨_, .base (.int i), .inr (.inr (.inl ⟨⟨i, rfl⟩, rfl⟩))⟩
  | str z => exact ⟨_, .base (.str z), .inr (.inr (.inr ⟨⟨z, rfl⟩, rfl⟩))⟩
  | byt _ => cases h
  | flt _ => cases h
  | ref _ => cases h
  | ty _ => cases h
/-- a def that draws: from the tape at t, what it hands back in R -/
def spDraw (R : V → Hp → Addr → Prop) : Sp := fun vs H Q _ => ∃ (t c : Addr) (cs : List Int), vs = [.ref t] ∧ TapeAt H t c cs ∧ ∀ v H', R v H' t → TapeAt H' t c cs → SameX t H H' → Q v H'
def isChar : V → Hp → Addr → Prop := fun v _ _ => ∃ c, chOk c ∧ v = .str (one c)
def isText (n : Nat) : V → Hp → Addr → Prop := fun v _ _ => ∃ z : Str, z.length ≤ n ∧ (∀ c ∈ tl z, chOk c) ∧ v = .str z
def isInt (lo hi : Int) : V → Hp → Addr → Prop := fun v _ _ => ∃ i : Int, lo ≤ i ∧ i ≤ hi ∧ v = .int i
theorem cutS_sub {z : Str} {lo hi : Option Int} : ∀ c ∈ tl (cutS z lo hi), c ∈ tl z := by
  intro c hc
  have e : tl (cutS z lo hi) = (z.cps.toList.drop (HT.sIx z.length 0 lo)).take (HT.sIx z.length z.length hi - HT.sIx z.length 0 lo) := by simp [tl, cutS]
  rw [e] at hc
  exact List.mem_of_mem_drop (List.mem_of_mem_take hc)
theorem len_app (u v : Str) : (u ++ v).length = u.length + v.length := by rw [len_tl, tl_append, List.length_append, ← len_tl, ← len_tl]
/-- anything that is handed to is_value -/
inductive Thing (H : Hp) : V → Prop where
  | non : Thing H .non
  | bl (b : Bool) : Thing H (.bl b)
  | int (i : Int) : Thing H (.int i)
  | str (z : Str) (h : z.length ≤ 1000) : Thing H (.str z)
  | lst {a : Addr} {xs : List V} (h : H a = some (.lst xs)) : Thing H (.ref a)
  | tup {a : Addr} {xs : List V} (h : H a = some (.tup xs)) : Thing H (.ref a)
theorem Thing.mono {H H' : Hp} {v : V} (t : Thing H v) (e : Same H H') : Thing H' v := by
  cases t with
  | non => exact .non
  | bl b => exact .bl b
  | int i => exact .int i
  | str z h => exact .str z h
  | lst h => exact .lst (e _ _ h)
  | tup h => exact .tup (e _ _ h)
/-- is it a value (point 3) -/
def goodV : V → Bool
  | .non => true
  | .int i => decide (-1000000000 < i ∧ i < 1000000000)
  | .str z => decide (z.length ≤ 30 ∧ ∀ c ∈ tl z, chOk c)
  | _ => false
def kindOf : V → Str
  | .non => ""
  | .int _ => "int"
  | .bl _ => "int"
  | _ => "text"
def plainOf (k : Str) (b : Bool) : V := if b = true then .non else if k = ("int" : Str) then .int 0 else .str ""
def spIsValue : Sp := fun vs H Q _ => ∃ v, vs = [v] ∧ Thing H v ∧ ∀ H', Same H H' → Q (.bl (goodV v)) H'
def spIsText : Sp := fun vs H Q _ => ∃ z : Str, vs = [.str z] ∧ z.length ≤ 1000 ∧ ∀ H', Same H H' → Q (.bl (goodV (.str z))) H'
def spIsChar : Sp := fun vs H Q _ => ∃ c : Nat, vs = [.str (one c)] ∧ Q (.bl (decide (chOk c))) H
def spKindOf : Sp := fun vs H Q _ => ∃ v, vs = [v] ∧ isScal v = true ∧ Q (.str (kindOf v)) H
def spPlain : Sp := fun vs H Q _ => ∃ (k : Str) (b : Bool), vs = [.str k, .bl b] ∧ Q (plainOf k b) H
/-- what law(script) promises -/
def spLaw (K : PySem.W.Frag) : Sp := fun vs H Q _ => ∃ (a : Addr) (ns : List Int), vs = [.ref a] ∧ SqL K H a (ns.map V.int) ∧ ns.length ≤ 63 ∧ ∀ H', Q (.bl true) H'
end Lt

set_option autoImplicit false
namespace Lt
open PySem L2 TL
open C8 (pss_cut)
/-! ## data that stand still: tuples of tuples of plain values -/
inductive D where
  | s (v : V)
  | t (ds : List D)
mutual
inductive Tp (H : Hp) : V → D → Prop
  | s {v : V} (h : isScal v = true) : Tp H v (.s v)
  | t {a : Addr} {xs : List V} {ds : List D} (h : H a = some (.tup xs)) (r : TpL H xs ds) : Tp H (.ref a) (.t ds)
inductive TpL (H : Hp) : List V → List D → Prop
  | nil : TpL H [] []
  | cons {v : V} {d : D} {vs : List V} {ds : List D} (h : Tp H v d) (r : TpL H vs ds) : TpL H (v :: vs) (d :: ds)
end
/-- every tuple stands as it stood -/
def KeepT (H H' : Hp) : Prop := ∀ b xs, H b = some (.tup xs) → H' b = some (.tup xs)
theorem KeepT.refl (H : Hp) : KeepT H H := fun _ _ h => h
theorem KeepT.trans {H H1 H2 : Hp} (a : KeepT H H1) (b : KeepT H1 H2) : KeepT H H2 := fun c o h => b c o (a c o h)
theorem KeepT.of {H H1 : Hp} (a : Same H H1) : KeepT H H1 := fun c o h => a c _ h
theorem KeepT.ofX {t c : Addr} {cs : List Int} {H H1 : Hp} (T : TapeAt H t c cs) (a : SameX t H H1) : KeepT H H1 := fun b o h => a b _ h (by
  obtain ⟨_, _, _, _, e, _⟩ := T.dk
  exact ne_of h e (by intro z; cases z))
theorem KeepT.upd {H : Hp} {p : Addr} {o : HO} (h : ∀ xs, H p ≠ some (.tup xs)) : KeepT H (L2.upd H p o) := fun b xs e => by
  have ne : b ≠ p := by
    intro z
    subst z
    exact h xs e
  rw [upd_ne ne]; exact e
theorem KeepT.new {H : Hp} {p : Addr} (h : H p = none) (o : HO) : KeepT H (L2.upd H p o) := KeepT.of (same_new h o)
mutual
theorem Tp.mono {H H' : Hp} (k : KeepT H H') : ∀ {d : D} {v : V}, Tp H v d → Tp H' v d
  | .s _, _, h => by cases h with | s h => exact .s h
  | .t ds, _, h => by cases h with | t h r => exact .t (k _ _ h) (TpL.mono k r)
theorem TpL.mono {H H' : Hp} (k : KeepT H H') : ∀ {ds : List D} {vs : List V}, TpL H vs ds → TpL H' vs ds
  | [], _, h => by cases h; exact .nil
  | d :: ds, _, h => by cases h with | cons h r => exact .cons (Tp.mono k h) (TpL.mono k r)
end
theorem TpL.length {H : Hp} : ∀ {ds : List D} {vs : List V}, TpL H vs ds → vs.length = ds.length
  | [], _, h => by cases h; rfl
  | d :: ds, _, h => by cases h with | cons h r => rw [List.length_cons, List.length_cons, TpL.length r]
theorem TpL.get {H : Hp} : ∀ {ds : List D} {vs : List V} {i : Nat} {v : V}, TpL H vs ds → vs[i]? = some v → ∃ d, ds[i]? = some d ∧ Tp H v d
  | [], _, i, v, h, e => by cases h; simp at e
  | d :: ds, _, 0, v, h, e => by cases h with | cons h r => simp at e; subst e; exact ⟨d, rfl, h⟩
  | d :: ds, _, i + 1, v, h, e => by cases h with | cons h r => exact TpL.get (i := i) r (by simpa using e)
theorem TpL.get' {H : Hp} {ds : List D} {vs : List V} {i : Nat} {d : D} (h : TpL H vs ds) (e : ds[i]? = some d) : ∃ v, vs[i]? = some v ∧ Tp H v d := by
  have hl := h.length
  have hi : i < ds.length := (List.getElem?_eq_some_iff.mp e).1
  have ev : vs[i]? = some vs[i] := List.getElem?_eq_getElem (by omega)
  obtain ⟨d', e1, e2⟩ := h.get ev
  rw [e] at e1
  cases e1
  exact ⟨_, ev, e2⟩
theorem TpL.snoc {H : Hp} : ∀ {ds : List D} {vs : List V} {v : V} {d : D}, TpL H vs ds → Tp H v d → TpL H (vs ++ [v]) (ds ++ [d])
  | [], _, v, d, h, q => by cases h; exact .cons q .nil
  | d0 :: ds, _, v, d, h, q => by cases h with | cons h r => exact .cons h (TpL.snoc r q)
theorem TpL.scal {H : Hp} : ∀ {vs : List V}, (∀ v ∈ vs, isScal v = true) → TpL H vs (vs.map D.s)
  | [], _ => .nil
  | v :: vs, h => .cons (.s (h v List.mem_cons_self)) (TpL.scal fun x hx => h x (List.mem_cons_of_mem _ hx))

/-! ### columns, clauses, conditions -/
structure Col where
  n : Str
  k : Str
  b : Bool
def colD (c : Col) : D := .t [.s (.str c.n), .s (.str c.k), .s (.bl c.b)]
structure Cl where
  n : Str
  op : Str
  v : V
def clD (c : Cl) : D := .t [.s (.str c.n), .s (.str c.op), .s c.v]
abbrev Cond := List (List Cl)
def altD (a : List Cl) : D := .t (a.map clD)
def condD (c : Cond) : D := .t (c.map altD)
theorem col_at {H : Hp} {v : V} {c : Col} (h : Tp H v (colD c)) : ∃ a, v = .ref a ∧ H a = some (.tup [.str c.n, .str c.k, .bl c.b]) := by
  cases h with
  | t h r =>
    cases r with
    | cons h1 r => cases h1; cases r with
      | cons h2 r => cases h2; cases r with
        | cons h3 r => cases h3; cases r; exact ⟨_, rfl, h⟩
theorem col_mk {H : Hp} {a : Addr} {c : Col} (h : H a = some (.tup [.str c.n, .str c.k, .bl c.b])) : Tp H (.ref a) (colD c) :=
  .t h (.cons (.s rfl) (.cons (.s rfl) (.cons (.s rfl) .nil)))
theorem cl_at {H : Hp} {v : V} {c : Cl} (h : Tp H v (clD c)) : ∃ a, v = .ref a ∧ H a = some (.tup [.str c.n, .str c.op, c.v]) ∧ isScal c.v = true := by
  cases h with
  | t h r =>
    cases r with
    | cons h1 r => cases h1; cases r with
      | cons h2 r => cases h2; cases r with
        | cons h3 r => cases h3 with | s hs => cases r; exact ⟨_, rfl, h, hs⟩
theorem cl_mk {H : Hp} {a : Addr} {c : Cl} (h : H a = some (.tup [.str c.n, .str c.op, c.v])) (hs : isScal c.v = true) : Tp H (.ref a) (clD c) :=
  .t h (.cons (.s rfl) (.cons (.s rfl) (.cons (.s hs) .nil)))
theorem t_at {H : Hp} {v : V} {ds : List D} (h : Tp H v (.t ds)) : ∃ a xs, v = .ref a ∧ H a = some (.tup xs) ∧ TpL H xs ds := by
  cases h with
  | t h r => exact ⟨_, _, rfl, h, r⟩
/-! ### what a condition says of a row -/
def ltV : V → V → Bool
  | .int a, .int b => decide (a < b)
  | .str a, .str b => decide (tl a < tl b)
  | _, _ => false
def cmpM (v : V) (op : Str) (w : V) : Bool :=
  if op = ("=" : Str) then decide (v = w) else if op = ("!=" : Str) then !decide (v = w) else if op = ("<" : Str) then ltV v w
  else if op = ("<=" : Str) then !ltV w v else if op = (">" : Str) then ltV w v else !ltV v w
/-- two values that may be compared -/
def Alike (v w : V) : Prop := (∃ a b, v = .int a ∧ w = .int b) ∨ ∃ a b, v = .str a ∧ w = .str b
def at_ (names : List Str) (row : List V) (n : Str) : V := row.getD (names.idxOf n) .non
def clauseM (names : List Str) (row : List V) (c : Cl) : Bool :=
  if c.op = ("null" : Str) then decide (at_ names row c.n = .non) else if c.op = ("given" : Str) then !decide (at_ names row c.n = .non)
  else if at_ names row c.n = .non then false else cmpM (at_ names row c.n) c.op c.v
def altM (names : List Str) (row : List V) (a : List Cl) : Bool := a.all (clauseM names row)
def holdsM (names : List Str) (row : List V) (c : Cond) : Bool := c.any (altM names row)
/-- the clause can be asked of the row -/
def ClFit (names : List Str) (row : List V) (c : Cl) : Prop := c.n ∈ names ∧ (c.op = ("null" : Str) ∨ c.op = ("given" : Str) ∨ at_ names row c.n = .non ∨ Alike (at_ names row c.n) c.v)
theorem idx_str : ∀ {names : List Str} {n : Str}, n ∈ names → ∃ j, j = names.idxOf n ∧ j < names.length ∧ names[j]? = some n ∧ ∀ m x, m < j → names[m]? = some x → x ≠ n
  | [], n, h => by cases h
  | x :: r, n, h => by
    by_cases e : x = n
    · subst e
      exact ⟨0, by simp, by simp, rfl, fun m x hm => absurd hm (Nat.not_lt_zero _)⟩
    · have h' : n ∈ r := by
        rcases List.mem_cons.mp h with h | h
        · exact absurd h.symm e
        · exact h
      obtain ⟨j, e1, e2, e3, e4⟩ := idx_str h'
      refine ⟨j + 1, by rw [List.idxOf_cons, beq_false_of_ne e, ← e1]; rfl, by rw [List.length_cons]; omega, by simpa using e3, fun m y hm hy => ?_⟩
      match m, hm, hy with
      | 0, _, hy => simp at hy; subst hy; exact e
      | m + 1, hm, hy => exact e4 m y (by omega) (by simpa using hy)
theorem at_some {names : List Str} {row : List V} {n : Str} (h : n ∈ names) (hl : row.length = names.length) : row[names.idxOf n]? = some (at_ names row n) := by
  obtain ⟨j, e1, e2, _, _⟩ := idx_str h
  rw [← e1]
  unfold at_
  rw [← e1, List.getD_eq_getElem?_getD, List.getElem?_eq_getElem (by omega)]
  rfl
theorem list_lt (a b : List Nat) : (!decide (b < a)) = (decide (a < b) || decide (a = b)) := by
  have h : ¬ b < a ↔ (a < b ∨ a = b) := by rw [List.not_lt]; exact List.le_iff_lt_or_eq
  by_cases h1 : b < a
  · have h2 : ¬ (a < b ∨ a = b) := fun z => h.mpr z h1
    have h3 : ¬ a < b := fun z => h2 (.inl z)
    have h4 : ¬ a = b := fun z => h2 (.inr z)
    simp [h1, h3, h4]
  · rcases h.mp h1 with h2 | h2
    · simp [h1, h2]
    · simp [h1, h2]
theorem le_V {v w : V} (h : Alike v w) : (!ltV w v) = (ltV v w || decide (v = w)) := by
  rcases h with ⟨a, b, rfl, rfl⟩ | ⟨a, b, rfl, rfl⟩
  · unfold ltV
    by_cases h1 : b < a
    · have h2 : ¬ a < b := by omega
      have h3 : ¬ V.int a = V.int b := fun z => by cases z; omega
      simp [h1, h2]
      intro z; omega
    · by_cases h2 : a < b
      · simp [h1, h2]
      · have e : a = b := by omega
        simp [e]
  · unfold ltV
    rw [list_lt]
    have e : decide (tl a = tl b) = decide (V.str a = V.str b) := by
      by_cases h : a = b
      · subst h; simp
      · have h1 : ¬ tl a = tl b := fun z => h (ext_tl z)
        have h2 : ¬ V.str a = V.str b := fun z => h (V.str.inj z)
        rw [decide_eq_false h1, decide_eq_false h2]
    rw [e]
/-- one of two rules -/
theorem op_either {X : Cx} {f : Value → Value → Sem Value} {r1 r2 : R2} (h1 : OpR X f r1) (h2 : OpR X f r2) : OpR X f (fun x y H Q => r1 x y H Q ∨ r2 x y H Q) := by
  intro pins s σ H x y v u Q I rx ry h
  rcases h with h | h
  · exact h1 pins s σ H x y v u Q I rx ry h
  · exact h2 pins s σ H x y v u Q I rx ry h
/-- names.index(n) -/
theorem ix_names {names : List Str} {n : Str} (hn : n ∈ names) : ∃ z, (names.map V.str).all flatV = true ∧ (names.map V.str)[names.idxOf n]? = some z ∧ eqV z (.str n) = true ∧ ∀ (m : Nat) (z' : V), m < names.idxOf n → (names.map V.str)[m]? = some z' → eqV z' (.str n) = false := by
  obtain ⟨j, e1, e2, e3, e4⟩ := idx_str hn
  rw [← e1]
  refine ⟨.str n, ?_, ?_, ?_, ?_⟩
  · rw [List.all_eq_true]
    intro v hv
    obtain ⟨z, _, rfl⟩ := List.mem_map.mp hv
    rfl
  · rw [List.getElem?_map, e3]; rfl
  · show (n == n) = true; simp
  · intro m z hm hz
    rw [List.getElem?_map] at hz
    cases e : names[m]? with
    | none => rw [e] at hz; cases hz
    | some y =>
      rw [e] at hz
      cases hz
      have := e4 m y hm e
      show (y == n) = false
      simpa using this
/-- what a drawn value of a column is -/
def ValOf (k : Str) (b : Bool) (v : V) : Prop := (b = true ∧ v = .non) ∨ (k = ("int" : Str) ∧ ∃ i : Int, v = .int i ∧ -999999999 ≤ i ∧ i ≤ 999999999) ∨ (k ≠ ("int" : Str) ∧ ∃ z : Str, v = .str z ∧ z.length ≤ 30 ∧ ∀ c ∈ tl z, chOk c)
theorem ValOf.scal {k : Str} {b : Bool} {v : V} (h : ValOf k b v) : isScal v = true := by
  rcases h with ⟨_, rfl⟩ | ⟨_, i, rfl, _⟩ | ⟨_, z, rfl, _⟩ <;> rfl
theorem ValOf.alike {k : Str} {b : Bool} {v w : V} (h : ValOf k b v) (g : ValOf k false w) : v = .non ∨ Alike v w := by
  rcases h with ⟨_, rfl⟩ | ⟨k1, i, rfl, _⟩ | ⟨k1, z, rfl, _⟩
  · exact .inl rfl
  · rcases g with ⟨e, _⟩ | ⟨_, j, rfl, _⟩ | ⟨k2, _⟩
    · cases e
    · exact .inr (.inl ⟨_, _, rfl, rfl⟩)
    · exact absurd k1 k2
  · rcases g with ⟨e, _⟩ | ⟨k2, _⟩ | ⟨_, y, rfl, _⟩
    · cases e
    · exact absurd k2 k1
    · exact .inr (.inr ⟨_, _, rfl, rfl⟩)
end Lt

set_option autoImplicit false
namespace Lt
open PySem L2 TL
open C8 (pss_cut)
/-! ## what the laws draw -/
def SameXY (t u : Addr) (H H' : Hp) : Prop := ∀ b o, H b = some o → b ≠ t → b ≠ u → H' b = some o
theorem SameXY.refl (t u : Addr) (H : Hp) : SameXY t u H H := fun _ _ h _ _ => h
theorem SameXY.trans {t u : Addr} {H H1 H2 : Hp} (a : SameXY t u H H1) (b : SameXY t u H1 H2) : SameXY t u H H2 := fun c o h n m => b c o (a c o h n m) n m
theorem SameXY.ofX {t u : Addr} {H H1 : Hp} (a : SameX t H H1) : SameXY t u H H1 := fun c o h n _ => a c o h n
theorem SameXY.of {t u : Addr} {H H1 : Hp} (a : Same H H1) : SameXY t u H H1 := fun c o h _ _ => a c o h
theorem samexy_upd {t u : Addr} {H H1 : Hp} {p : Addr} (h : H p = none) (o : HO) (e : SameXY t u H H1) : SameXY t u H (upd H1 p o) := fun b v q n m => by rw [upd_ne (ne_of_none q h)]; exact e _ _ q n m
theorem SameXY.updY {t u : Addr} {H H1 : Hp} (o : HO) (e : SameXY t u H H1) : SameXY t u H (upd H1 u o) := fun b v q n m => by rw [upd_ne m]; exact e _ _ q n m
theorem TapeAt.fresh {H : Hp} {t c D : Addr} {cs : List Int} (T : TapeAt H t c cs) (h : H D = none) : D ≠ t ∧ c ≠ D := by
  obtain ⟨_, _, _, _, e, _⟩ := T.dk
  exact ⟨(ne_of_none e h).symm, ne_of_none T.ls h⟩
theorem TapeAt.notL {H : Hp} {t c D : Addr} {cs : List Int} {xs : List V} (T : TapeAt H t c cs) (h : H D = some (.lst xs)) : D ≠ t := by
  obtain ⟨_, _, _, _, e, _⟩ := T.dk
  exact ne_of h e (by intro z; cases z)
theorem KeepT.ofXY {t u c : Addr} {cs : List Int} {H H1 : Hp} {us : List V} (T : TapeAt H t c cs) (hu : H u = some (.lst us)) (a : SameXY t u H H1) : KeepT H H1 := fun b o h => by
  obtain ⟨_, _, _, _, e, _⟩ := T.dk
  exact a b _ h (ne_of h e (by intro z; cases z)) (ne_of h hu (by intro z; cases z))
theorem tl_int (i : Int) : tl (Str.ofString (toString i)) = if i < 0 then 45 :: numL i.natAbs else numL i.natAbs := by
  cases i with
  | ofNat n =>
    rw [if_neg (by show ¬ ((n : Int) < 0); omega)]
    exact tl_num n
  | negSucc n =>
    rw [if_pos (Int.negSucc_lt_zero n)]
    have e : toString (Int.negSucc n) = "-" ++ toString (((n + 1 : Nat) : Int)) := rfl
    rw [e, tl_ofString, String.toList_append, List.map_append, ← tl_ofString, ← tl_ofString, tl_num]
    rfl
theorem num_chars (n : Nat) : ∀ c ∈ numL n, 48 ≤ c ∧ c ≤ 57 := fun c h => numL_digits n c h
theorem int_text {i : Int} (h1 : -999999999 ≤ i) (h2 : i ≤ 999999999) : (Str.ofString (toString i)).length ≤ 10 ∧ ∀ c ∈ tl (Str.ofString (toString i)), c = 45 ∨ (48 ≤ c ∧ c ≤ 57) := by
  have hl : (numL i.natAbs).length ≤ 9 := numL_len (by decide) (by omega)
  constructor
  · rw [len_tl, tl_int]
    split
    · rw [List.length_cons]; omega
    · omega
  · intro c hc
    rw [tl_int] at hc
    split at hc
    · rcases List.mem_cons.mp hc with h | h
      · exact .inl h
      · exact .inr (num_chars _ _ h)
    · exact .inr (num_chars _ _ hc)
theorem log_small {i : Int} (h1 : -999999999 ≤ i) (h2 : i ≤ 999999999) : i.natAbs.log2 < 1920 := by
  have : i.natAbs < 2 ^ 30 := by omega
  exact Nat.lt_of_lt_of_le (PySem.Flt.log2_lt_of (by decide) this) (by decide)
theorem digit_ok {c : Nat} (h : c = 45 ∨ (48 ≤ c ∧ c ≤ 57)) : chOk c := by unfold chOk; omega
/-- _law_value -/
def spVal : Sp := fun vs H Q _ => ∃ (t c : Addr) (cs : List Int) (k : Str) (b : Bool), vs = [.ref t, .str k, .bl b] ∧ TapeAt H t c cs ∧ ∀ v H', ValOf k b v → TapeAt H' t c cs → SameX t H H' → Q v H'
/-! ### names -/
def nmCh (c : Nat) : Prop := (97 ≤ c ∧ c ≤ 122) ∨ (48 ≤ c ∧ c ≤ 57) ∨ c = 95
instance (c : Nat) : Decidable (nmCh c) := by unfold nmCh; exact inferInstance
def nameOk (z : Str) : Prop := z.length ≤ 20 ∧ (∃ c r, tl z = c :: r ∧ 97 ≤ c ∧ c ≤ 122) ∧ ∀ c ∈ tl z, nmCh c
theorem nmCh.ok {c : Nat} (h : nmCh c) : chOk c := by unfold nmCh at h; unfold chOk; omega
/-- each of i names of the list us begins with one of the first i letters, no two alike -/
def Hit (us : List Str) (i : Nat) : Prop := ∃ ws : List Str, ws.length = i ∧ ws.Nodup ∧ ∀ v ∈ ws, v ∈ us ∧ ∃ j r, j < i ∧ tl v = (97 + j) :: r
theorem Hit.step {us : List Str} {i : Nat} (h : Hit us i) {z : Str} {r : List Nat} (e : tl z = (97 + i) :: r) : z ∉ us ∨ Hit us (i + 1) := by
  obtain ⟨ws, h1, h2, h3⟩ := h
  by_cases hz : z ∈ us
  · refine .inr ⟨z :: ws, by rw [List.length_cons, h1], List.nodup_cons.mpr ⟨fun hw => ?_, h2⟩, fun v hv => ?_⟩
    · obtain ⟨_, j, r', hj, e'⟩ := h3 z hw
      rw [e] at e'
      have := (List.cons.inj e').1
      omega
    · rcases List.mem_cons.mp hv with rfl | hv
      · exact ⟨hz, i, r, by omega, e⟩
      · obtain ⟨a, j, r', hj, e'⟩ := h3 v hv
        exact ⟨a, j, r', by omega, e'⟩
  · exact .inl hz
theorem Hit.no {us : List Str} {i : Nat} (h : Hit us i) (hl : us.length < i) : False := by
  obtain ⟨ws, h1, h2, h3⟩ := h
  have := List.Nodup.length_le_of_subset h2 (fun v hv => (h3 v hv).1)
  omega
theorem inV_str (z : Str) (us : List Str) : inV (.str z) (us.map V.str) = decide (z ∈ us) := by
  unfold inV
  rw [Bool.eq_iff_iff, List.any_eq_true, decide_eq_true_iff]
  constructor
  · rintro ⟨v, hv, e⟩
    obtain ⟨y, hy, rfl⟩ := List.mem_map.mp hv
    have : y = z := by simpa [eqV] using e
    rw [← this]; exact hy
  · intro h
    exact ⟨.str z, List.mem_map.mpr ⟨z, h, rfl⟩, by simp [eqV]⟩
theorem flat_strs (us : List Str) : (us.map V.str).all flatV = true := by
  rw [List.all_eq_true]
  intro v hv
  obtain ⟨y, _, rfl⟩ := List.mem_map.mp hv
  rfl
def spName : Sp := fun vs H Q _ => ∃ (t c u : Addr) (cs : List Int) (us : List Str), vs = [.ref t, .ref u] ∧ TapeAt H t c cs ∧ H u = some (.lst (us.map V.str)) ∧ u ≠ c ∧ us.length ≤ 25 ∧
  ∀ z H', nameOk z → z ∉ us → TapeAt H' t c cs → H' u = some (.lst ((us ++ [z]).map V.str)) → SameXY t u H H' → Q (.str z) H'
/-! ### columns -/
def colNs (cols : List Col) : List Str := cols.map (·.n)
structure ColsOk (us : List Str) (cols : List Col) : Prop where
  nd : (colNs cols).Nodup
  fr : ∀ n ∈ colNs cols, n ∉ us ∧ nameOk n
  kd : ∀ c ∈ cols, c.k = ("int" : Str) ∨ c.k = ("text" : Str)
  hd : ∀ c, cols[0]? = some c → c.b = false
def spColumns : Sp := fun vs H Q _ => ∃ (t c u : Addr) (cs : List Int) (us : List Str) (many : Int), vs = [.ref t, .ref u, .int many] ∧ TapeAt H t c cs ∧ H u = some (.lst (us.map V.str)) ∧ u ≠ c ∧ 0 ≤ many ∧ many ≤ 8 ∧ (us.length : Int) + many ≤ 25 ∧
  ∀ L cols xs H', H L = none → H' L = some (.lst xs) → TpL H' xs (cols.map colD) → (cols.length : Int) = many + 1 → ColsOk us cols → TapeAt H' t c cs → H' u = some (.lst ((us ++ colNs cols).map V.str)) → SameXY t u H H' → Q (.ref L) H'
/-- a list of columns stands at L -/
def ColsAt (H : Hp) (L : Addr) (cols : List Col) : Prop := ∃ xs, H L = some (.lst xs) ∧ TpL H xs (cols.map colD)
theorem ColsAt.mono {H H' : Hp} {L : Addr} {cols : List Col} (h : ColsAt H L cols) (k : KeepT H H') (e : ∀ o, H L = some o → H' L = some o) : ColsAt H' L cols := by
  obtain ⟨xs, h1, h2⟩ := h
  exact ⟨xs, e _ h1, h2.mono k⟩
theorem ColsAt.get {H : Hp} {L : Addr} {cols : List Col} (h : ColsAt H L cols) {i : Nat} {col : Col} (e : cols[i]? = some col) : ∃ xs a, H L = some (.lst xs) ∧ xs[i]? = some (.ref a) ∧ H a = some (.tup [.str col.n, .str col.k, .bl col.b]) := by
  obtain ⟨xs, h1, h2⟩ := h
  obtain ⟨v, e1, e2⟩ := h2.get' (i := i) (d := colD col) (by rw [List.getElem?_map, e]; rfl)
  obtain ⟨a, rfl, e3⟩ := col_at e2
  exact ⟨xs, a, h1, e1, e3⟩
def spNames : Sp := fun vs H Q _ => ∃ (L : Addr) (cols : List Col), vs = [.ref L] ∧ ColsAt H L cols ∧ cols.length ≤ 100 ∧ ∀ N H', H N = none → Same H H' → H' N = some (.lst ((colNs cols).map V.str)) → Q (.ref N) H'
/-- the values of a row behind the key -/
def RestOf (cols : List Col) (vs : List V) : Prop := vs.length + 1 = cols.length ∧ ∀ (i : Nat) (col : Col) (v : V), cols[i + 1]? = some col → vs[i]? = some v → ValOf col.k col.b v
def spRest : Sp := fun vs H Q _ => ∃ (t c L : Addr) (cs : List Int) (cols : List Col), vs = [.ref t, .ref L] ∧ TapeAt H t c cs ∧ ColsAt H L cols ∧ 0 < cols.length ∧ cols.length ≤ 100 ∧
  ∀ p ws H', H p = none → H' p = some (.tup ws) → RestOf cols ws → TapeAt H' t c cs → SameX t H H' → Q (.ref p) H'
/-! ### clauses and conditions -/
def ClOk (cols : List Col) (cl : Cl) : Prop := ∃ col ∈ cols, cl.n = col.n ∧ (((cl.op = ("null" : Str) ∨ cl.op = ("given" : Str)) ∧ cl.v = .non) ∨
  ((cl.op ≠ ("null" : Str) ∧ cl.op ≠ ("given" : Str)) ∧ ValOf col.k false cl.v))
theorem ClOk.scal {cols : List Col} {cl : Cl} (h : ClOk cols cl) : isScal cl.v = true := by
  obtain ⟨col, _, _, ⟨_, e⟩ | ⟨_, e⟩⟩ := h
  · rw [e]; rfl
  · exact e.scal
def spClause : Sp := fun vs H Q _ => ∃ (t c L : Addr) (cs : List Int) (cols : List Col), vs = [.ref t, .ref L] ∧ TapeAt H t c cs ∧ ColsAt H L cols ∧ 0 < cols.length ∧ cols.length ≤ 100 ∧
  ∀ v cl H', Tp H' v (clD cl) → ClOk cols cl → TapeAt H' t c cs → SameX t H H' → Q v H'
def spCond : Sp := fun vs H Q _ => ∃ (t c L : Addr) (cs : List Int) (cols : List Col), vs = [.ref t, .ref L] ∧ TapeAt H t c cs ∧ ColsAt H L cols ∧ 0 < cols.length ∧ cols.length ≤ 100 ∧
  ∀ v cond H', Tp H' v (condD cond) → (∀ a ∈ cond, ∀ cl ∈ a, ClOk cols cl) → cond.length ≤ 4 → (∀ a ∈ cond, a.length ≤ 4) → TapeAt H' t c cs → SameX t H H' → Q v H'
theorem at_ofN {α : Type} {xs : List α} {z : Int} {j : Nat} {v : α} (e : z = (j : Int)) (h : xs[j]? = some v) : atI xs z = some v := by rw [e]; exact atI_nat h
theorem getD_some {vs : List V} {i : Nat} {v : V} (h : vs[i]? = some v) : vs.getD i .non = v := by rw [List.getD_eq_getElem?_getD, h]; rfl
theorem fit_of {cols : List Col} {row : List V} (nd : (colNs cols).Nodup) (hl : row.length = cols.length) (hv : ∀ (i : Nat) (col : Col) (v : V), cols[i]? = some col → row[i]? = some v → ValOf col.k col.b v) {cl : Cl} (h : ClOk cols cl) : ClFit (colNs cols) row cl := by
  obtain ⟨col, hc, e, h⟩ := h
  have hn : cl.n ∈ colNs cols := by rw [e]; exact List.mem_map.mpr ⟨col, hc, rfl⟩
  refine ⟨hn, ?_⟩
  rcases h with ⟨h, _⟩ | ⟨_, hw⟩
  · rcases h with h | h
    · exact .inl h
    · exact .inr (.inl h)
  · obtain ⟨j, e1, e2, e3, _⟩ := idx_str hn
    have hj : j < cols.length := by unfold colNs at e2; rwa [List.length_map] at e2
    have ec : cols[j]? = some cols[j] := List.getElem?_eq_getElem hj
    have en : cols[j].n = col.n := by
      unfold colNs at e3
      rw [List.getElem?_map, ec] at e3
      exact (Option.some.inj e3).trans e
    have eq : cols[j] = col := by
      obtain ⟨i, hi, ei⟩ := List.getElem_of_mem hc
      have a1 : (colNs cols)[i]? = some col.n := by unfold colNs; rw [List.getElem?_map, List.getElem?_eq_getElem hi, ei]; rfl
      have a2 : (colNs cols)[j]? = some col.n := by unfold colNs; rw [List.getElem?_map, ec]; exact congrArg some en
      have := nd_ix nd a1 a2
      subst this
      exact ei
    have er : row[j]? = some row[j] := List.getElem?_eq_getElem (by omega)
    have ea : at_ (colNs cols) row cl.n = row[j] := by unfold at_; rw [← e1]; exact getD_some er
    rw [ea]
    have := (hv j col row[j] (by rw [ec, eq]) er).alike hw
    exact .inr (.inr this)
theorem alike_self {v w : V} (h : Alike v w) : Alike v v := by
  rcases h with ⟨a, b, rfl, rfl⟩ | ⟨a, b, rfl, rfl⟩
  · exact .inl ⟨a, a, rfl, rfl⟩
  · exact .inr ⟨a, a, rfl, rfl⟩
theorem cut_tail (xs : List V) : cutV xs (some 1) none = xs.drop 1 := by
  unfold cutV
  have e1 : HT.sIx xs.length 0 (some 1) = min 1 xs.length := HT.sIx_nat _ _ 1
  have e2 : HT.sIx xs.length xs.length none = xs.length := rfl
  rw [e1, e2]
  cases xs with
  | nil => rfl
  | cons x r =>
    have e3 : min 1 (x :: r).length = 1 := by rw [List.length_cons]; omega
    rw [e3, List.take_of_length_le (by rw [List.length_drop]; omega)]
end Lt

set_option autoImplicit false
namespace Lt
open PySem L2 TL
open C8 (pss_cut)
/-! ## numbers as texts -/
theorem takes_no {X : Cx} : Takes X (fun _ _ _ _ => False) := fun u s' h => by
  obtain ⟨_, _, _, _, _, _, _, _, _, _, _, _, _, _, _, _, bad⟩ := h
  exact bad.elim
def dgL (L : List Nat) : List Nat := if L.head? = some 45 then L.tail else L
def numI (L : List Nat) : Int := if L.head? = some 45 then -((NumText.digitsVal (dgL L) : Nat) : Int) else ((NumText.digitsVal (dgL L) : Nat) : Int)
def shape (L : List Nat) : Prop := dgL L ≠ [] ∧ (dgL L).length ≤ 9 ∧ NumText.AllDigits (dgL L)
def canon (L : List Nat) : Prop := shape L ∧ ((dgL L).head? = some 48 → L = [48])
instance (l : List Nat) : Decidable (NumText.AllDigits l) := by unfold NumText.AllDigits; exact inferInstance
instance (L : List Nat) : Decidable (shape L) := by unfold shape; exact inferInstance
instance (L : List Nat) : Decidable (canon L) := by unfold canon; exact inferInstance
theorem val_snoc (l : List Nat) (d : Nat) : NumText.digitsVal (l ++ [d]) = NumText.digitsVal l * 10 + (d - 48) := by
  unfold NumText.digitsVal
  rw [List.foldl_append]
  rfl
theorem fold_pos : ∀ (l : List Nat) (a : Nat), 1 ≤ a → 1 ≤ l.foldl (fun acc c => acc * 10 + (c - 48)) a
  | [], a, h => h
  | c :: r, a, h => fold_pos r (a * 10 + (c - 48)) (by omega)
theorem val_pos {l : List Nat} (h : NumText.AllDigits l) (hn : l ≠ []) (h0 : l.head? ≠ some 48) : 1 ≤ NumText.digitsVal l := by
  cases l with
  | nil => exact absurd rfl hn
  | cons c r =>
    have hc := h.head
    have : c ≠ 48 := fun e => h0 (by rw [e]; rfl)
    unfold NumText.digitsVal
    rw [List.foldl_cons]
    exact fold_pos r (0 * 10 + (c - 48)) (by omega)
theorem num_of : ∀ (n : Nat) (l : List Nat), l.length = n → NumText.AllDigits l → l ≠ [] → l.head? ≠ some 48 → numL (NumText.digitsVal l) = l := by
  intro n
  induction n with
  | zero => intro l hl _ hn; exact absurd (List.eq_nil_of_length_eq_zero hl) hn
  | succ n ih =>
    intro l hl h hn h0
    have e := List.dropLast_concat_getLast hn
    generalize l.getLast hn = d at e
    generalize l.dropLast = l' at e
    subst e
    have hd : 48 ≤ d ∧ d ≤ 57 := h d (by simp)
    rw [val_snoc]
    by_cases e0 : l' = []
    · subst e0
      have hd0 : d ≠ 48 := fun z => h0 (by rw [z]; rfl)
      have ev : NumText.digitsVal [] * 10 + (d - 48) = d - 48 := by show 0 * 10 + (d - 48) = d - 48; omega
      rw [ev, numL_lt (by omega)]
      show [48 + (d - 48)] = [d]
      rw [show 48 + (d - 48) = d by omega]
    · have h' : NumText.AllDigits l' := fun c hc => h c (List.mem_append.mpr (.inl hc))
      have h0' : l'.head? ≠ some 48 := by
        cases l' with
        | nil => exact absurd rfl e0
        | cons a r => exact h0
      have pos := val_pos h' e0 h0'
      have hl' : l'.length = n := by rw [List.length_append] at hl; simpa using hl
      rw [numL_step (by omega)]
      have e1 : (NumText.digitsVal l' * 10 + (d - 48)) / 10 = NumText.digitsVal l' := by omega
      have e2 : 48 + (NumText.digitsVal l' * 10 + (d - 48)) % 10 = d := by omega
      rw [e1, e2, ih l' hl' h' e0 h0']
theorem num_head (n : Nat) (h : 1 ≤ n) : (numL n).head? ≠ some 48 := by
  induction n using Nat.strongRecOn with
  | _ n ih =>
    by_cases h1 : n < 10
    · rw [numL_lt h1]
      intro e
      have := Option.some.inj e
      omega
    · rw [numL_step (by omega)]
      have := ih (n / 10) (by omega) (by omega)
      cases e : numL (n / 10) with
      | nil => exact absurd e (numL_ne _)
      | cons a r => rw [e] at this; exact this
theorem num_zero : numL 0 = [48] := numL_lt (by decide)
/-- the number written down again is the text exactly if the text is canonical -/
theorem canon_iff {L : List Nat} (h : shape L) : tl (Str.ofString (toString (numI L))) = L ↔ canon L := by
  obtain ⟨h1, h2, h3⟩ := id h
  rw [tl_int]
  by_cases hs : L.head? = some 45
  · have eL : L = 45 :: dgL L := by
      unfold dgL
      rw [if_pos hs]
      cases L with
      | nil => cases hs
      | cons a r => cases hs; rfl
    have en : numI L = -((NumText.digitsVal (dgL L) : Nat) : Int) := by unfold numI; rw [if_pos hs]
    rw [en]
    generalize hD : dgL L = D at *
    by_cases h0 : D.head? = some 48
    · have nc : ¬ canon L := fun c => by
        have := c.2 (by rw [hD]; exact h0)
        rw [this] at hs
        cases hs
      refine iff_of_false ?_ nc
      intro e
      by_cases hv : NumText.digitsVal D = 0
      · rw [hv] at e
        rw [if_neg (by decide)] at e
        have e' : numL 0 = L := e
        rw [num_zero] at e'
        rw [← e'] at hs
        cases hs
      · rw [if_pos (by omega), Int.natAbs_neg, Int.natAbs_natCast, eL] at e
        have e1 := (List.cons.inj e).2
        exact num_head _ (by omega) (e1 ▸ h0)
    · refine iff_of_true ?_ ⟨h, fun z => absurd (by rw [hD] at z; exact z) h0⟩
      have := val_pos h3 h1 h0
      rw [if_pos (by omega), Int.natAbs_neg, Int.natAbs_natCast, num_of _ D rfl h3 h1 h0]
      exact eL.symm
  · have eL : dgL L = L := by unfold dgL; rw [if_neg hs]
    have en : numI L = ((NumText.digitsVal L : Nat) : Int) := by unfold numI; rw [if_neg hs, eL]
    rw [en, if_neg (by omega), Int.natAbs_natCast]
    unfold canon
    rw [eL] at h1 h2 h3 ⊢
    by_cases h0 : L.head? = some 48
    · constructor
      · intro e
        refine ⟨h, fun _ => ?_⟩
        by_cases hv : NumText.digitsVal L = 0
        · rw [hv, num_zero] at e; exact e.symm
        · exact absurd (e ▸ h0) (num_head _ (by omega))
      · rintro ⟨_, c⟩
        rw [c h0]
        decide +kernel
    · exact iff_of_true (num_of _ L rfl h3 h1 h0) ⟨h, fun z => absurd z h0⟩
theorem int_of {z : Str} (h : shape (tl z)) : intText? z = some (numI (tl z)) := by
  obtain ⟨h1, h2, h3⟩ := id h
  by_cases hs : (tl z).head? = some 45
  · have eL : tl z = 45 :: dgL (tl z) := by
      unfold dgL
      rw [if_pos hs]
      cases e : tl z with
      | nil => rw [e] at hs; cases hs
      | cons a r => rw [e] at hs; cases hs; rfl
    have l : z.length ≤ 4300 := by rw [len_tl, eL, List.length_cons]; omega
    have e := intText_neg (x := z) eL h3 h1 l
    rw [e]
    unfold numI
    rw [if_pos hs]
  · have eL : dgL (tl z) = tl z := by unfold dgL; rw [if_neg hs]
    rw [eL] at h1 h2 h3
    have e := intText_digits (x := z) h3 h1 (by rw [len_tl]; omega)
    rw [e]
    unfold numI
    rw [if_neg hs, eL]
theorem len_shape {z : Str} (h : shape (tl z)) : z.length ≤ 10 := by
  obtain ⟨_, h2, _⟩ := h
  rw [len_tl]
  unfold dgL at h2
  split at h2
  · rw [List.length_tail] at h2; omega
  · omega
theorem small_num {L : List Nat} (h : shape L) : -999999999 ≤ numI L ∧ numI L ≤ 999999999 := by
  obtain ⟨_, h2, h3⟩ := h
  have b : ∀ (l : List Nat), NumText.AllDigits l → NumText.digitsVal l < 10 ^ l.length := by
    intro l
    have g : ∀ (n : Nat) (l : List Nat), l.length = n → NumText.AllDigits l → NumText.digitsVal l < 10 ^ n := by
      intro n
      induction n with
      | zero => intro l hl _; rw [List.eq_nil_of_length_eq_zero hl]; decide
      | succ n ih =>
        intro l hl h
        have hn : l ≠ [] := by intro z; rw [z] at hl; cases hl
        have e := List.dropLast_concat_getLast hn
        generalize l.getLast hn = d at e
        generalize l.dropLast = l' at e
        subst e
        have hd : 48 ≤ d ∧ d ≤ 57 := h d (by simp)
        have hl' : l'.length = n := by rw [List.length_append] at hl; simpa using hl
        have := ih l' hl' (fun c hc => h c (List.mem_append.mpr (.inl hc)))
        rw [val_snoc, Nat.pow_succ]
        omega
    exact g l.length l rfl
  have h4 := b _ h3
  have h5 : (10 : Nat) ^ (dgL L).length ≤ 10 ^ 9 := Nat.pow_le_pow_right (by decide) h2
  have h6 : NumText.digitsVal (dgL L) ≤ 999999999 := by
    have : (10 : Nat) ^ 9 = 1000000000 := by decide
    omega
  unfold numI
  split <;> omega
theorem dec_ascii : ∀ c : Nat, c < 127 → Unicode.isDecimal c = decide (48 ≤ c ∧ c ≤ 57) := by decide +kernel
theorem isdec {z : Str} (h : ∀ c ∈ tl z, chOk c) : Txt.isdecimal z = decide (tl z ≠ [] ∧ NumText.AllDigits (tl z)) := by
  unfold PySem.Txt.isdecimal
  rw [← Array.all_toList, Bool.eq_iff_iff, Bool.and_eq_true, decide_eq_true_iff, List.all_eq_true, decide_eq_true_iff]
  have e : z.length = (tl z).length := len_tl z
  constructor
  · rintro ⟨a, b⟩
    refine ⟨fun z0 => by rw [z0] at e; simp at e; omega, fun c hc => ?_⟩
    have := b c hc
    rw [dec_ascii c (by have := (h c hc).2.1; omega)] at this
    exact of_decide_eq_true this
  · rintro ⟨a, b⟩
    refine ⟨by have := List.length_pos_iff.mpr a; omega, fun c hc => ?_⟩
    rw [dec_ascii c (by have := (h c hc).2.1; omega)]
    exact decide_eq_true (b c hc)
theorem tl_dash : tl ("-" : Str) = [45] := by decide +kernel
theorem tl_remove (z : Str) : tl (Txt.removeprefix z ("-" : Str)) = dgL (tl z) := by
  have l1 : ("-" : Str).length = 1 := by decide +kernel
  have hsub : Builtin.Str.subAt z ("-" : Str) 0 = decide ((tl z).head? = some 45) := by
    rw [PySem.StrLaws.subAt_eq, l1, List.drop_zero]
    show ((tl z).take 1 == tl ("-" : Str)) = _
    rw [tl_dash]
    cases e : tl z with
    | nil => simp
    | cons a r =>
      by_cases h : a = 45
      · subst h; rfl
      · simp [h]
  unfold PySem.Txt.removeprefix PySem.Txt.affix dgL
  rw [hsub, l1]
  by_cases h : (tl z).head? = some 45
  · rw [if_pos (decide_eq_true h), if_pos h]
    have hp : 0 < z.length := by
      rw [len_tl]
      cases e : tl z with
      | nil => rw [e] at h; cases h
      | cons a r => simp
    have ne : (z.length - 1 == z.length) = false := by simp; omega
    show tl (if (z.length - 1 == z.length) = true then z else Builtin.Str.strSub z 1 z.length) = _
    rw [ne, if_neg Bool.false_ne_true, tl_strSub, List.take_of_length_le (by rw [List.length_drop, len_tl]; omega)]
    exact List.drop_one
  · rw [if_neg (by simpa using h), if_neg h]
theorem tl_cut1 (z : Str) : tl (cutS z none (some 1)) = (tl z).take 1 := by
  have e : tl (cutS z none (some 1)) = ((tl z).drop (HT.sIx z.length 0 none)).take (HT.sIx z.length z.length (some 1) - HT.sIx z.length 0 none) := by simp [tl, cutS]
  have e1 : HT.sIx z.length z.length (some 1) = min 1 z.length := HT.sIx_nat _ _ 1
  rw [e, e1]
  show ((tl z).drop 0).take (min 1 z.length - 0) = _
  rw [List.drop_zero, Nat.sub_zero, len_tl]
  cases tl z with
  | nil => rfl
  | cons a r => rw [show min 1 (a :: r).length = 1 by rw [List.length_cons]; omega]
theorem tl_cut2 (z : Str) : tl (cutS z (some 1) none) = (tl z).drop 1 := by
  have e : tl (cutS z (some 1) none) = ((tl z).drop (HT.sIx z.length 0 (some 1))).take (HT.sIx z.length z.length none - HT.sIx z.length 0 (some 1)) := by simp [tl, cutS]
  have e1 : HT.sIx z.length 0 (some 1) = min 1 z.length := HT.sIx_nat _ _ 1
  rw [e, e1]
  show ((tl z).drop (min 1 z.length)).take (z.length - min 1 z.length) = _
  rw [len_tl]
  cases tl z with
  | nil => rfl
  | cons a r =>
    rw [show min 1 (a :: r).length = 1 by rw [List.length_cons]; omega, List.take_of_length_le (by rw [List.length_drop]; omega)]
theorem first_dash (z : Str) : (cutS z none (some 1) = ("-" : Str)) ↔ (tl z).head? = some 45 := by
  constructor
  · intro e
    have e1 := congrArg tl e
    rw [tl_cut1, tl_dash] at e1
    cases h : tl z with
    | nil => rw [h] at e1; cases e1
    | cons a r => rw [h] at e1; simp at e1; rw [e1]; rfl
  · intro e
    refine ext_tl ?_
    rw [tl_cut1, tl_dash]
    cases h : tl z with
    | nil => rw [h] at e; cases e
    | cons a r => rw [h] at e; cases e; rfl
theorem digit_in : ∀ k : Nat, k < 10 → Txt.index0 ("0123456789" : Str) (one (48 + k)) = some k := by decide +kernel
theorem digits_tl : ∀ c : Nat, c < 127 → (c ∈ ("0123456789" : Str).cps.toList ↔ (48 ≤ c ∧ c ≤ 57)) := by decide +kernel
end Lt

set_option autoImplicit false
namespace Lt
open PySem L2 TL
open C8 (pss_cut)
/-! ## walks within comprehensions; tuples cut and joined; data that are the same -/
theorem inner {J : It} {n : Nat} {G : Hp → Prop} {Y : Nat → Hp → V → Hp → Prop} (wk : Walk J n G Y) {B : V → Hp → (Hp → Prop) → Prop} {Ha : Hp} {Nx : Hp → Prop} (Pv : Nat → Hp → Prop)
    (h0 : Pv 0 Ha) (hG : ∀ i Hb, i ≤ n → Pv i Hb → G Hb) (hs : ∀ i x Hb Hc, i < n → Pv i Hb → Y i Hb x Hc → B x Hc (Pv (i + 1))) (hd : ∀ Hb, Pv n Hb → Nx Hb) :
    ∃ W : Nat → Nat → Hp → Prop, (∃ m, W 0 m Ha) ∧ ∀ j k Hb, W j k Hb → (J.stop j Hb ∧ Nx Hb) ∨ (J.go j Hb ∧ ∃ N : Hp → Prop, (∀ Hc, N Hc → ∃ k', k' < k ∧ W (j + 1) k' Hc) ∧ ∀ x Hc, J.yld j Hb x Hc → B x Hc N) := by
  refine ⟨fun j left Hb => left + j = n ∧ Pv j Hb, ⟨n, Nat.add_zero n, h0⟩, fun j left Hb hw => ?_⟩
  obtain ⟨e, p⟩ := hw
  have g := hG j Hb (by omega) p
  rcases Nat.eq_zero_or_pos left with z | z
  · have ej : j = n := by omega
    subst ej
    exact .inl ⟨wk.stops Hb g, hd Hb p⟩
  · have lt : j < n := by omega
    exact .inr ⟨wk.goes j Hb lt g, Pv (j + 1), fun Hc pc => ⟨left - 1, by omega, by omega, pc⟩, fun x Hc y => hs j x Hb Hc lt p (wk.yields j Hb x Hc lt g y)⟩
def rTup (K : PySem.W.Frag) : List V → Hp → VK → Prop := fun xs H Q => ∃ p ys, xs = [.ref p] ∧ ((SqL K H p ys ∧ ∀ l, H l = none → Q (.ref l) (upd H l (.tup ys))) ∨ (SqT K H p ys ∧ Q (.ref p) H))
theorem ct {X : Cx} : CallR X (.type "tuple") (rTup X.K) := call_tuple_of
theorem cat_any {K : PySem.W.Frag} {H : Hp} {Q : VK} {a b : Addr} {xs ys : List V} (ha : H a = some (.tup xs)) (hb : H b = some (.tup ys)) (hl : xs.length + ys.length ≤ 1000)
    (q : ∀ p H', H' p = some (.tup (xs ++ ys)) → Same H H' → Q (.ref p) H') : rCatA K (.ref a) (.ref b) H Q := by
  refine ⟨a, b, xs, ys, rfl, rfl, SqT.of ha, SqT.of hb, Nat.le_of_lt (small1000 hl), fun e => ?_, fun _ e => ?_, fun _ _ p hp => q p _ upd_same (same_new hp _)⟩
  · subst e; exact q b H hb (Same.refl _)
  · subst e; exact q a H (by rw [List.append_nil]; exact ha) (Same.refl _)
theorem cut_any {K : PySem.W.Frag} {H : Hp} {Q : VK} {a : Addr} {xs : List V} {lo hi : Option Int} (ha : H a = some (.tup xs))
    (q : ∀ p H', H' p = some (.tup (cutV xs lo hi)) → Same H H' → Q (.ref p) H') : rSlA K (.ref a) lo hi H Q := by
  refine ⟨a, xs, rfl, SqT.of ha, fun e => ?_, fun _ p hp => q p _ upd_same (same_new hp _)⟩
  refine q a H ?_ (Same.refl _)
  rw [ha]
  unfold cutV
  rw [e.1, e.2, List.drop_zero, Nat.sub_zero, List.take_length]
theorem cut_front (xs : List V) (j : Nat) (h : j ≤ xs.length) : cutV xs none (some (j : Int)) = xs.take j := by
  unfold cutV
  rw [HT.sIx_nat, HT.sIx_none, List.drop_zero, Nat.sub_zero, Nat.min_eq_left h]
theorem cut_back (xs : List V) (j : Nat) (h : j ≤ xs.length) : cutV xs (some (j : Int)) none = xs.drop j := by
  unfold cutV
  rw [HT.sIx_nat, HT.sIx_none, Nat.min_eq_left h, List.take_of_length_le (by rw [List.length_drop]; omega)]
theorem TpL.take {H : Hp} : ∀ {ds : List D} {vs : List V} (n : Nat), TpL H vs ds → TpL H (vs.take n) (ds.take n)
  | _, _, 0, _ => .nil
  | [], _, n + 1, h => by cases h; exact .nil
  | d :: ds, _, n + 1, h => by cases h with | cons h r => exact .cons h (TpL.take n r)
theorem TpL.drop {H : Hp} : ∀ {ds : List D} {vs : List V} (n : Nat), TpL H vs ds → TpL H (vs.drop n) (ds.drop n)
  | _, _, 0, h => h
  | [], _, n + 1, h => by cases h; exact .nil
  | d :: ds, _, n + 1, h => by cases h with | cons h r => exact TpL.drop n r
theorem TpL.app {H : Hp} : ∀ {ds es : List D} {vs ws : List V}, TpL H vs ds → TpL H ws es → TpL H (vs ++ ws) (ds ++ es)
  | [], _, _, _, h, g => by cases h; exact g
  | d :: ds, _, _, _, h, g => by cases h with | cons h r => exact .cons h (TpL.app r g)
/-- two that bear the same data -/
theorem same_t {K : PySem.W.Frag} {H : Hp} {n : Nat} {v w : V} {ds : List D} (h : Tp H v (.t ds)) (g : Tp H w (.t ds)) (hl : ds.length ≤ 1000) (e : ∀ d ∈ ds, ∀ x y, Tp H x d → Tp H y d → SameV K H n x y) : SameV K H (n + 1) v w := by
  obtain ⟨a, xs, rfl, ha, ra⟩ := t_at h
  obtain ⟨b, ys, rfl, hb, rb⟩ := t_at g
  refine Or.inr (Or.inr ⟨a, b, xs, ys, rfl, rfl, ha, hb, by rw [ra.length, rb.length], by rw [ra.length]; exact hl, fun i u v hu hv => ?_⟩)
  obtain ⟨d, e1, e2⟩ := ra.get hu
  obtain ⟨d', e3, e4⟩ := rb.get hv
  rw [e1] at e3
  cases e3
  exact e d (List.mem_of_getElem? e1) u v e2 e4
theorem same_s {K : PySem.W.Frag} {H : Hp} {n : Nat} {v w x : V} (h : Tp H v (.s x)) (g : Tp H w (.s x)) : SameV K H (n + 1) v w := by
  cases h with
  | s h => cases g with | s g => exact SameV.sc h
theorem same_cl {K : PySem.W.Frag} {H : Hp} {n : Nat} {v w : V} {c : Cl} (h : Tp H v (clD c)) (g : Tp H w (clD c)) : SameV K H (n + 2) v w := by
  refine same_t h g (by show 3 ≤ 1000; decide) fun d hd x y hx hy => ?_
  simp only [List.mem_cons, List.not_mem_nil, or_false] at hd
  rcases hd with rfl | rfl | rfl <;> exact same_s hx hy
theorem same_cond {K : PySem.W.Frag} {H : Hp} {n : Nat} {v w : V} {c : Cond} (h : Tp H v (condD c)) (g : Tp H w (condD c)) (h1 : c.length ≤ 1000) (h2 : ∀ a ∈ c, a.length ≤ 1000) : SameV K H (n + 4) v w := by
  refine same_t h g (by rw [List.length_map]; exact h1) fun d hd x y hx hy => ?_
  obtain ⟨a, ha, rfl⟩ := List.mem_map.mp hd
  refine same_t hx hy (by rw [List.length_map]; exact h2 a ha) fun d hd x y hx hy => ?_
  obtain ⟨cl, _, rfl⟩ := List.mem_map.mp hd
  exact same_cl hx hy
/-! ### what conditions mention; renaming -/
def mentM (n : Str) (c : Cond) : Bool := c.any fun a => a.any fun cl => decide (cl.n = n)
def renCl (o n : Str) (cl : Cl) : Cl := if cl.n = o then ⟨n, cl.op, cl.v⟩ else cl
def renM (o n : Str) (c : Cond) : Cond := c.map fun a => a.map (renCl o n)
/-- any, all of one list after another -/
def flat (c : Cond) : List Cl := c.flatten
theorem any_flat (c : Cond) (f : Cl → Bool) : (c.flatten).any f = c.any fun a => a.any f := by
  induction c with
  | nil => rfl
  | cons a r ih => rw [List.flatten_cons, List.any_append, List.any_cons, ih]
theorem all_flat (c : Cond) (f : Cl → Bool) : (c.flatten).all f = c.all fun a => a.all f := by
  induction c with
  | nil => rfl
  | cons a r ih => rw [List.flatten_cons, List.all_append, List.all_cons, ih]
theorem flat_step {c : Cond} {i j : Nat} {a : List Cl} {x : Cl} (h : c[i]? = some a) (g : a[j]? = some x) : (c.take i).flatten ++ a.take (j + 1) = ((c.take i).flatten ++ a.take j) ++ [x] := by
  rw [List.take_add_one, g, List.append_assoc]; rfl
theorem flat_next {c : Cond} {i : Nat} {a : List Cl} (h : c[i]? = some a) : (c.take (i + 1)).flatten = (c.take i).flatten ++ a := by
  rw [List.take_add_one, h, List.flatten_append]
  simp
theorem map2_snoc {α β γ : Type} (f : α → β) (g : β → γ) (l : List α) (x : α) : ((l ++ [x]).map f).map g = (l.map f).map g ++ [g (f x)] := by simp
/-- a value that a clause may bear -/
def ClG (cl : Cl) : Prop := cl.v = .non ∨ (∃ i : Int, cl.v = .int i ∧ -999999999 ≤ i ∧ i ≤ 999999999) ∨ ∃ z : Str, cl.v = .str z ∧ z.length ≤ 30 ∧ ∀ c ∈ tl z, chOk c
theorem ClG.scal {cl : Cl} (h : ClG cl) : isScal cl.v = true := by
  rcases h with e | ⟨i, e, _⟩ | ⟨z, e, _⟩ <;> rw [e] <;> rfl
theorem ClOk.g {cols : List Col} {cl : Cl} (h : ClOk cols cl) : ClG cl := by
  obtain ⟨col, _, _, ⟨_, e⟩ | ⟨_, e⟩⟩ := h
  · exact .inl e
  · rcases e with ⟨e, _⟩ | ⟨_, i, e, h1, h2⟩ | ⟨_, z, e, h1, h2⟩
    · cases e
    · exact .inr (.inl ⟨i, e, h1, h2⟩)
    · exact .inr (.inr ⟨z, e, h1, h2⟩)
theorem ClG.thing {cl : Cl} {H : Hp} (h : ClG cl) : Thing H cl.v := by
  rcases h with e | ⟨i, e, _⟩ | ⟨z, e, h1, _⟩ <;> rw [e]
  · exact .non
  · exact .int i
  · exact .str z (by omega)
/-- fits_kind -/
def fitsK (v : V) (k : Str) (b : Bool) : Bool := if v = .non then b else goodV v && decide (kindOf v = k)
def spFitsKind : Sp := fun vs H Q _ => ∃ (v : V) (k : Str) (b : Bool), vs = [v, .str k, .bl b] ∧ Thing H v ∧ ∀ H', Same H H' → Q (.bl (fitsK v k b)) H'
/-- the kind of the column called n -/
def kindAt (cols : List Col) (n : Str) : Str := (cols.map (·.k)).getD ((colNs cols).idxOf n) ""
def clFits (cols : List Col) (cl : Cl) : Bool := decide (cl.n ∈ colNs cols) && fitsK cl.v (kindAt cols cl.n) true
def fitsM (cols : List Col) (c : Cond) : Bool := c.all fun a => a.all (clFits cols)
def kindsD (cols : List Col) : List (Key × V) := cols.map fun c => ((Sum.inr c.n : Key), V.str c.k)
theorem kinds_get : ∀ (cols : List Col) (n : Str), valV (kindsD cols) (Sum.inr n : Key) = if n ∈ colNs cols then some (.str (kindAt cols n)) else none
  | [], n => by simp [kindsD, colNs, valV]
  | c :: r, n => by
    have ih := kinds_get r n
    by_cases h : c.n = n
    · have e1 : valV (kindsD (c :: r)) (Sum.inr n : Key) = some (.str c.k) := by
        show valV ((((Sum.inr c.n : Key), V.str c.k)) :: kindsD r) _ = _
        rw [valV_pos (by rw [h])]
      have e2 : n ∈ colNs (c :: r) := by rw [← h]; exact List.mem_cons_self
      have e3 : kindAt (c :: r) n = c.k := by
        unfold kindAt colNs
        rw [List.map_cons, List.map_cons, List.idxOf_cons, h, beq_self_eq_true]
        rfl
      rw [e1, if_pos e2, e3]
    · have e1 : valV (kindsD (c :: r)) (Sum.inr n : Key) = valV (kindsD r) (Sum.inr n) := by
        show valV ((((Sum.inr c.n : Key), V.str c.k)) :: kindsD r) _ = _
        rw [valV_neg (fun z => h (Sum.inr.inj z))]
      have e2 : (n ∈ colNs (c :: r)) ↔ n ∈ colNs r := by
        unfold colNs
        rw [List.map_cons, List.mem_cons]
        exact ⟨fun z => z.resolve_left (fun w => h w.symm), .inr⟩
      have e3 : kindAt (c :: r) n = kindAt r n := by
        unfold kindAt colNs
        rw [List.map_cons, List.map_cons, List.idxOf_cons, beq_false_of_ne h]
        rfl
      rw [e1, ih, e3]
      by_cases g : n ∈ colNs r
      · rw [if_pos g, if_pos (e2.mpr g)]
      · rw [if_neg g, if_neg (fun z => g (e2.mp z))]
theorem kinds_put {cols : List Col} (nd : (colNs cols).Nodup) {i : Nat} {c : Col} (h : cols[i]? = some c) : putK (kindsD (cols.take i)) (Sum.inr c.n : Key) (.str c.k) = kindsD (cols.take (i + 1)) := by
  have hno : valV (kindsD (cols.take i)) (Sum.inr c.n : Key) = none := by
    rw [kinds_get, if_neg]
    intro hm
    unfold colNs at hm
    obtain ⟨d, hd, e⟩ := List.mem_map.mp hm
    obtain ⟨j, hj, ej⟩ := List.getElem_of_mem hd
    rw [List.length_take] at hj
    rw [List.getElem_take] at ej
    have a1 : (colNs cols)[j]? = some c.n := by unfold colNs; rw [List.getElem?_map, List.getElem?_eq_getElem (by omega), ej]; exact congrArg some e
    have a2 : (colNs cols)[i]? = some c.n := by unfold colNs; rw [List.getElem?_map, h]; rfl
    have := nd_ix nd a1 a2
    omega
  rw [putK_new _ hno, List.take_add_one, h]
  unfold kindsD
  rw [List.map_append]
  rfl
end Lt

set_option autoImplicit false
namespace Lt
open PySem L2 TL
open C8 (pss_cut)
/-! ## data of any form: tuples, lists, dicts, nested -/
inductive G where
  | s (v : V)
  | t (gs : List G)
  | l (gs : List G)
  | d (ks : List (Key × G))
mutual
/-- v bears the data g; the lists and dicts of it stand at the addresses D -/
inductive Gp (H : Hp) : V → G → List Addr → Prop
  | s {v : V} (h : isScal v = true) : Gp H v (.s v) []
  | t {a : Addr} {xs : List V} {gs : List G} {D : List Addr} (h : H a = some (.tup xs)) (n : xs.length ≤ 1000) (r : GpL H xs gs D) : Gp H (.ref a) (.t gs) D
  | l {a : Addr} {xs : List V} {gs : List G} {D : List Addr} (h : H a = some (.lst xs)) (n : xs.length ≤ 1000) (r : GpL H xs gs D) : Gp H (.ref a) (.l gs) (a :: D)
  | d {a : Addr} {kvs : List (Key × V)} {kgs : List (Key × G)} {D : List Addr} (h : H a = some (.dK kvs)) (n : kvs.length ≤ 1000) (nd : (kvs.map (·.1)).Nodup) (r : GpK H kvs kgs D) (f : a ∉ D) : Gp H (.ref a) (.d kgs) (a :: D)
inductive GpL (H : Hp) : List V → List G → List Addr → Prop
  | nil : GpL H [] [] []
  | cons {v : V} {g : G} {vs : List V} {gs : List G} {D E : List Addr} (h : Gp H v g D) (r : GpL H vs gs E) : GpL H (v :: vs) (g :: gs) (D ++ E)
inductive GpK (H : Hp) : List (Key × V) → List (Key × G) → List Addr → Prop
  | nil : GpK H [] [] []
  | cons {k : Key} {v : V} {g : G} {vs : List (Key × V)} {gs : List (Key × G)} {D E : List Addr} (h : Gp H v g D) (r : GpK H vs gs E) : GpK H ((k, v) :: vs) ((k, g) :: gs) (D ++ E)
end
mutual
def G.dep : G → Nat
  | .s _ => 0
  | .t gs => depL gs + 1
  | .l gs => depL gs + 1
  | .d ks => depK ks + 1
def depL : List G → Nat
  | [] => 0
  | g :: gs => max g.dep (depL gs)
def depK : List (Key × G) → Nat
  | [] => 0
  | (_, g) :: gs => max g.dep (depK gs)
end
theorem depL_mem : ∀ {gs : List G} {g : G}, g ∈ gs → g.dep ≤ depL gs
  | x :: r, g, h => by
    simp only [depL]
    rcases List.mem_cons.mp h with rfl | h
    · omega
    · have := depL_mem h; omega
theorem depK_mem : ∀ {ks : List (Key × G)} {k : Key} {g : G}, (k, g) ∈ ks → g.dep ≤ depK ks
  | (k', x) :: r, k, g, h => by
    simp only [depK]
    rcases List.mem_cons.mp h with e | h
    · cases e; omega
    · have := depK_mem h; omega
mutual
theorem Gp.frame {H H' : Hp} (kt : KeepT H H') : ∀ {g : G} {v : V} {D : List Addr}, Gp H v g D → (∀ b ∈ D, ∀ o, H b = some o → H' b = some o) → Gp H' v g D
  | .s _, _, _, h, _ => by cases h with | s h => exact .s h
  | .t gs, _, _, h, hd => by cases h with | t h n r => exact .t (kt _ _ h) n (GpL.frame kt r hd)
  | .l gs, _, _, h, hd => by cases h with | l h n r => exact .l (hd _ List.mem_cons_self _ h) n (GpL.frame kt r fun b hb => hd b (List.mem_cons_of_mem _ hb))
  | .d ks, _, _, h, hd => by cases h with | d h n nd r f => exact .d (hd _ List.mem_cons_self _ h) n nd (GpK.frame kt r fun b hb => hd b (List.mem_cons_of_mem _ hb)) f
theorem GpL.frame {H H' : Hp} (kt : KeepT H H') : ∀ {gs : List G} {vs : List V} {D : List Addr}, GpL H vs gs D → (∀ b ∈ D, ∀ o, H b = some o → H' b = some o) → GpL H' vs gs D
  | [], _, _, h, _ => by cases h; exact .nil
  | g :: gs, _, _, h, hd => by cases h with | cons h r => exact .cons (Gp.frame kt h fun b hb => hd b (List.mem_append.mpr (.inl hb))) (GpL.frame kt r fun b hb => hd b (List.mem_append.mpr (.inr hb)))
theorem GpK.frame {H H' : Hp} (kt : KeepT H H') : ∀ {gs : List (Key × G)} {vs : List (Key × V)} {D : List Addr}, GpK H vs gs D → (∀ b ∈ D, ∀ o, H b = some o → H' b = some o) → GpK H' vs gs D
  | [], _, _, h, _ => by cases h; exact .nil
  | (k, g) :: gs, _, _, h, hd => by cases h with | cons h r => exact .cons (Gp.frame kt h fun b hb => hd b (List.mem_append.mpr (.inl hb))) (GpK.frame kt r fun b hb => hd b (List.mem_append.mpr (.inr hb)))
end
theorem Gp.mono {H H' : Hp} {g : G} {v : V} {D : List Addr} (h : Gp H v g D) (e : Same H H') : Gp H' v g D := h.frame (KeepT.of e) fun b _ o z => e b o z
theorem GpL.mono {H H' : Hp} {g : List G} {v : List V} {D : List Addr} (h : GpL H v g D) (e : Same H H') : GpL H' v g D := h.frame (KeepT.of e) fun b _ o z => e b o z
theorem GpK.mono {H H' : Hp} {g : List (Key × G)} {v : List (Key × V)} {D : List Addr} (h : GpK H v g D) (e : Same H H') : GpK H' v g D := h.frame (KeepT.of e) fun b _ o z => e b o z
theorem GpL.length {H : Hp} : ∀ {gs : List G} {vs : List V} {D : List Addr}, GpL H vs gs D → vs.length = gs.length
  | [], _, _, h => by cases h; rfl
  | g :: gs, _, _, h => by cases h with | cons h r => rw [List.length_cons, List.length_cons, GpL.length r]
theorem GpL.get {H : Hp} : ∀ {gs : List G} {vs : List V} {D : List Addr} {i : Nat} {v : V}, GpL H vs gs D → vs[i]? = some v → ∃ g E, gs[i]? = some g ∧ Gp H v g E ∧ ∀ a ∈ E, a ∈ D
  | [], _, _, i, v, h, e => by cases h; simp at e
  | g :: gs, _, _, 0, v, h, e => by cases h with | cons h r => simp at e; subst e; exact ⟨g, _, rfl, h, fun a ha => List.mem_append.mpr (.inl ha)⟩
  | g :: gs, _, _, i + 1, v, h, e => by
    cases h with
    | cons h r =>
      obtain ⟨g', E, e1, e2, e3⟩ := GpL.get (i := i) r (by simpa using e)
      exact ⟨g', E, e1, e2, fun a ha => List.mem_append.mpr (.inr (e3 a ha))⟩
theorem GpK.get {H : Hp} : ∀ {gs : List (Key × G)} {vs : List (Key × V)} {D : List Addr} {i : Nat} {k : Key} {v : V}, GpK H vs gs D → vs[i]? = some (k, v) → ∃ g E, gs[i]? = some (k, g) ∧ Gp H v g E ∧ ∀ a ∈ E, a ∈ D
  | [], _, _, i, k, v, h, e => by cases h; simp at e
  | (k', g) :: gs, _, _, 0, k, v, h, e => by cases h with | cons h r => simp at e; obtain ⟨rfl, rfl⟩ := e; exact ⟨g, _, rfl, h, fun a ha => List.mem_append.mpr (.inl ha)⟩
  | (k', g) :: gs, _, _, i + 1, k, v, h, e => by
    cases h with
    | cons h r =>
      obtain ⟨g', E, e1, e2, e3⟩ := GpK.get (i := i) r (by simpa using e)
      exact ⟨g', E, e1, e2, fun a ha => List.mem_append.mpr (.inr (e3 a ha))⟩
theorem GpK.keys {H : Hp} : ∀ {gs : List (Key × G)} {vs : List (Key × V)} {D : List Addr}, GpK H vs gs D → vs.map (·.1) = gs.map (·.1)
  | [], _, _, h => by cases h; rfl
  | g :: gs, _, _, h => by cases h with | cons h r => rw [List.map_cons, List.map_cons, GpK.keys r]
theorem GpL.snoc {H : Hp} : ∀ {gs : List G} {vs : List V} {D E : List Addr} {v : V} {g : G}, GpL H vs gs D → Gp H v g E → GpL H (vs ++ [v]) (gs ++ [g]) (D ++ E)
  | [], _, _, E, v, g, h, q => by
    cases h
    have := GpL.cons q GpL.nil
    rw [List.append_nil] at this
    exact this
  | g0 :: gs, _, _, E, v, g, h, q => by
    cases h with
    | cons h r =>
      rw [List.append_assoc]
      exact .cons h (GpL.snoc r q)
theorem GpK.snoc {H : Hp} : ∀ {gs : List (Key × G)} {vs : List (Key × V)} {D E : List Addr} {k : Key} {v : V} {g : G}, GpK H vs gs D → Gp H v g E → GpK H (vs ++ [(k, v)]) (gs ++ [(k, g)]) (D ++ E)
  | [], _, _, E, k, v, g, h, q => by
    cases h
    have := GpK.cons (k := k) q GpK.nil
    rw [List.append_nil] at this
    exact this
  | g0 :: gs, _, _, E, k, v, g, h, q => by
    cases h with
    | cons h r =>
      rw [List.append_assoc]
      exact .cons h (GpK.snoc r q)
theorem valV_at : ∀ {kvs : List (Key × V)} {i : Nat} {k : Key} {v : V}, (kvs.map (·.1)).Nodup → kvs[i]? = some (k, v) → valV kvs k = some v
  | [], i, k, v, _, h => by simp at h
  | (k0, v0) :: r, 0, k, v, _, h => by simp at h; obtain ⟨rfl, rfl⟩ := h; exact valV_pos rfl
  | (k0, v0) :: r, i + 1, k, v, nd, h => by
    have h' : r[i]? = some (k, v) := by simpa using h
    rw [List.map_cons, List.nodup_cons] at nd
    have ne : ¬ k0 = k := fun e => nd.1 (by rw [e]; exact List.mem_map.mpr ⟨(k, v), List.mem_of_getElem? h', rfl⟩)
    rw [valV_neg ne]
    exact valV_at nd.2 h'
theorem upd_self {H : Hp} {a : Addr} {o : HO} (h : H a = some o) : upd H a o = H := by
  funext b
  by_cases e : b = a
  · subst e; rw [upd_same, h]
  · rw [upd_ne e]
theorem KeepT.lock {H : Hp} {a : Addr} {kvs : List (Key × V)} {o : HO} (h : H a = some (.dK kvs)) : KeepT H (L2.upd H a o) := KeepT.upd fun xs z => by rw [h] at z; cases z
/-- behind a lock -/
theorem Gp.locked {H : Hp} {g : G} {v : V} {D : List Addr} {b : Addr} {kvs : List (Key × V)} {o : HO} (h : Gp H v g D) (hb : H b = some (.dK kvs)) (n : b ∉ D) : Gp (upd H b o) v g D :=
  h.frame (KeepT.lock hb) fun c hc u z => by
    have ne : c ≠ b := fun e => by subst e; exact n hc
    rw [upd_ne ne]; exact z
theorem ty_ref {K : PySem.W.Frag} {H : Hp} {a : Addr} {o : HO} (h : H a = some o) : (∀ xs, o = .lst xs → TyX K H (.ref a) (.type "list")) ∧ (∀ xs, o = .tup xs → TyX K H (.ref a) (.type "tuple")) ∧ (∀ xs, o = .dK xs → TyX K H (.ref a) (.type "dict")) :=
  ⟨fun xs e => .base (.lst (by rw [h, e])), fun xs e => .base (.tup (by rw [h, e])), fun xs e => .base (.dK (by rw [h, e]))⟩
def spSameG (n : Nat) : Sp := fun vs H Q _ => ∃ x y g D E, vs = [x, y] ∧ Gp H x g D ∧ Gp H y g E ∧ (∀ a ∈ D, a ∉ E) ∧ g.dep < n ∧ Q (.bl true) H
def spItemsG (n : Nat) : Sp := fun vs H Q _ => ∃ (a b : Addr) (xs ys : List V) (gs : List G) (D E : List Addr), vs = [.ref a, .ref b] ∧ ((H a = some (.lst xs) ∧ H b = some (.lst ys)) ∨ (H a = some (.tup xs) ∧ H b = some (.tup ys))) ∧ xs.length ≤ 1000 ∧
  GpL H xs gs D ∧ GpL H ys gs E ∧ (∀ a ∈ D, a ∉ E) ∧ (∀ g ∈ gs, g.dep < n) ∧ Q (.bl true) H
def spCopyG (n : Nat) : Sp := fun vs H Q _ => ∃ x g D, vs = [x] ∧ Gp H x g D ∧ g.dep < n ∧ ∀ x' D' H', Gp H' x' g D' → Same H H' → (∀ a ∈ D', H a = none) → Q x' H'
end Lt

set_option autoImplicit false
namespace Lt
open PySem L2 TL
open C8 (pss_cut)
/-! ## schemas as they stand in the heap -/
structure Tab where
  n : Str
  cols : List Col
  ch : List Cond
  un : List Str
  rf : List (Str × Str)
structure Ads where
  d : Addr
  c : Addr
  k : Addr
  u : Addr
  r : Addr
def rfD (p : Str × Str) : D := .t [.s (.str p.1), .s (.str p.2)]
theorem rf_at {H : Hp} {v : V} {p : Str × Str} (h : Tp H v (rfD p)) : ∃ a, v = .ref a ∧ H a = some (.tup [.str p.1, .str p.2]) := by
  obtain ⟨a, xs, rfl, h1, h2⟩ := t_at h
  cases h2 with
  | cons g r => cases g; cases r with
    | cons g r => cases g; cases r; exact ⟨a, rfl, h1⟩
theorem rf_mk {H : Hp} {a : Addr} {p : Str × Str} (h : H a = some (.tup [.str p.1, .str p.2])) : Tp H (.ref a) (rfD p) := .t h (.cons (.s rfl) (.cons (.s rfl) .nil))
theorem e_co_ch : ¬ ("columns" : Str) = ("checks" : Str) := by decide +kernel
theorem e_co_un : ¬ ("columns" : Str) = ("uniques" : Str) := by decide +kernel
theorem e_co_rf : ¬ ("columns" : Str) = ("references" : Str) := by decide +kernel
theorem e_ch_un : ¬ ("checks" : Str) = ("uniques" : Str) := by decide +kernel
theorem e_ch_rf : ¬ ("checks" : Str) = ("references" : Str) := by decide +kernel
theorem e_un_rf : ¬ ("uniques" : Str) = ("references" : Str) := by decide +kernel
def descD (a : Ads) : List (Key × V) := [(Sum.inr ("columns" : Str), .ref a.c), (Sum.inr ("checks" : Str), .ref a.k), (Sum.inr ("uniques" : Str), .ref a.u), (Sum.inr ("references" : Str), .ref a.r)]
theorem dd_c (a : Ads) : valV (descD a) (Sum.inr ("columns" : Str) : Key) = some (.ref a.c) := valV_pos rfl
theorem dd_k (a : Ads) : valV (descD a) (Sum.inr ("checks" : Str) : Key) = some (.ref a.k) := by unfold descD; rw [valV_neg (fun z => e_co_ch (Sum.inr.inj z)), valV_pos rfl]
theorem dd_u (a : Ads) : valV (descD a) (Sum.inr ("uniques" : Str) : Key) = some (.ref a.u) := by unfold descD; rw [valV_neg (fun z => e_co_un (Sum.inr.inj z)), valV_neg (fun z => e_ch_un (Sum.inr.inj z)), valV_pos rfl]
theorem dd_r (a : Ads) : valV (descD a) (Sum.inr ("references" : Str) : Key) = some (.ref a.r) := by unfold descD; rw [valV_neg (fun z => e_co_rf (Sum.inr.inj z)), valV_neg (fun z => e_ch_rf (Sum.inr.inj z)), valV_neg (fun z => e_un_rf (Sum.inr.inj z)), valV_pos rfl]
theorem merge_desc (a : Ads) : mergeK [] (descD a) = descD a := by
  simp [mergeK, putK, descD, e_co_ch, e_co_un, e_co_rf, e_ch_un, e_ch_rf, e_un_rf]
structure DescAt (H : Hp) (a : Ads) (t : Tab) : Prop where
  dk : H a.d = some (.dK (descD a))
  co : ColsAt H a.c t.cols
  ch : ∃ xs, H a.k = some (.lst xs) ∧ TpL H xs (t.ch.map condD)
  un : H a.u = some (.lst (t.un.map V.str))
  rf : ∃ xs, H a.r = some (.lst xs) ∧ TpL H xs (t.rf.map rfD)
def adL (a : Ads) : List Addr := [a.c, a.k, a.u, a.r]
theorem DescAt.frame {H H' : Hp} {a : Ads} {t : Tab} (h : DescAt H a t) (kt : KeepT H H') (kd : ∀ o, H a.d = some o → H' a.d = some o) (kl : ∀ b ∈ adL a, ∀ o, H b = some o → H' b = some o) : DescAt H' a t := by
  obtain ⟨h1, h2, ⟨xs, h3, h3'⟩, h4, ⟨ys, h5, h5'⟩⟩ := h
  refine ⟨kd _ h1, h2.mono kt (kl a.c (by simp [adL])), ⟨xs, kl a.k (by simp [adL]) _ h3, h3'.mono kt⟩, kl a.u (by simp [adL]) _ h4, ⟨ys, kl a.r (by simp [adL]) _ h5, h5'.mono kt⟩⟩
theorem DescAt.isL {H : Hp} {a : Ads} {t : Tab} (h : DescAt H a t) : ∀ b ∈ adL a, ∃ xs, H b = some (.lst xs) := by
  obtain ⟨h1, ⟨xs, h2, _⟩, ⟨ys, h3, _⟩, h4, ⟨zs, h5, _⟩⟩ := h
  intro b hb
  simp only [adL, List.mem_cons, List.not_mem_nil, or_false] at hb
  rcases hb with rfl | rfl | rfl | rfl
  · exact ⟨_, h2⟩
  · exact ⟨_, h3⟩
  · exact ⟨_, h4⟩
  · exact ⟨_, h5⟩
abbrev Sch := List (Ads × Tab)
def schK (s : Sch) : List (Key × V) := s.map fun p => ((Sum.inr p.2.n : Key), V.ref p.1.d)
def schN (s : Sch) : List Str := s.map fun p => p.2.n
def schL (s : Sch) : List Addr := s.flatMap fun p => adL p.1
structure SchAt (H : Hp) (S : Addr) (s : Sch) (t c : Addr) : Prop where
  sk : H S = some (.dK (schK s))
  ds : ∀ p ∈ s, DescAt H p.1 p.2
  nm : (schN s).Nodup
  dn : (t :: S :: s.map fun p => p.1.d).Nodup
  ln : (c :: schL s).Nodup
theorem sch_keys (s : Sch) : (schK s).map (·.1) = (schN s).map Sum.inr := by unfold schK schN; rw [List.map_map, List.map_map]; rfl
theorem sch_nd {s : Sch} (h : (schN s).Nodup) : ((schK s).map (·.1)).Nodup := by
  rw [sch_keys]
  exact List.Pairwise.map _ (fun a b e z => e (Sum.inr.inj z)) h
theorem sch_get {s : Sch} (h : (schN s).Nodup) {p : Ads × Tab} (hp : p ∈ s) : valV (schK s) (Sum.inr p.2.n : Key) = some (.ref p.1.d) := by
  obtain ⟨i, hi, e⟩ := List.getElem_of_mem hp
  refine valV_at (i := i) (sch_nd h) ?_
  unfold schK
  rw [List.getElem?_map, List.getElem?_eq_getElem hi, e]
  rfl
theorem sch_in {s : Sch} {n : Str} (h : n ∈ schN s) : ∃ p ∈ s, p.2.n = n := by
  obtain ⟨p, h1, h2⟩ := List.mem_map.mp h
  exact ⟨p, h1, h2⟩
theorem sch_one {s : Sch} (h : (schN s).Nodup) {p q : Ads × Tab} (hp : p ∈ s) (hq : q ∈ s) (e : p.2.n = q.2.n) : p = q := by
  obtain ⟨i, hi, ei⟩ := List.getElem_of_mem hp
  obtain ⟨j, hj, ej⟩ := List.getElem_of_mem hq
  have a1 : (schN s)[i]? = some p.2.n := by unfold schN; rw [List.getElem?_map, List.getElem?_eq_getElem hi, ei]; rfl
  have a2 : (schN s)[j]? = some p.2.n := by unfold schN; rw [List.getElem?_map, List.getElem?_eq_getElem hj, ej]; exact congrArg some e.symm
  have := nd_ix h a1 a2
  subst this
  rw [← ei, ← ej]
theorem SchAt.desc {H : Hp} {S : Addr} {s : Sch} {t c : Addr} (h : SchAt H S s t c) {p : Ads × Tab} (hp : p ∈ s) : DGet H S (.str p.2.n) (some (.ref p.1.d)) := by
  have g := DGet.k (k := (Sum.inr p.2.n : Key)) h.sk
  rw [sch_get h.nm hp] at g
  exact g
theorem DescAt.gc {H : Hp} {a : Ads} {t : Tab} (h : DescAt H a t) : DGet H a.d (.str "columns") (some (.ref a.c)) := by have g := DGet.k (k := (Sum.inr ("columns" : Str) : Key)) h.dk; rw [dd_c] at g; exact g
theorem DescAt.gk {H : Hp} {a : Ads} {t : Tab} (h : DescAt H a t) : DGet H a.d (.str "checks") (some (.ref a.k)) := by have g := DGet.k (k := (Sum.inr ("checks" : Str) : Key)) h.dk; rw [dd_k] at g; exact g
theorem DescAt.gu {H : Hp} {a : Ads} {t : Tab} (h : DescAt H a t) : DGet H a.d (.str "uniques") (some (.ref a.u)) := by have g := DGet.k (k := (Sum.inr ("uniques" : Str) : Key)) h.dk; rw [dd_u] at g; exact g
theorem DescAt.gr {H : Hp} {a : Ads} {t : Tab} (h : DescAt H a t) : DGet H a.d (.str "references") (some (.ref a.r)) := by have g := DGet.k (k := (Sum.inr ("references" : Str) : Key)) h.dk; rw [dd_r] at g; exact g
/-- the same but for the things at ex -/
def SameE (ex : List Addr) (H H' : Hp) : Prop := ∀ b o, H b = some o → b ∉ ex → H' b = some o
theorem SameE.refl (ex : List Addr) (H : Hp) : SameE ex H H := fun _ _ h _ => h
theorem SameE.trans {ex : List Addr} {H H1 H2 : Hp} (a : SameE ex H H1) (b : SameE ex H1 H2) : SameE ex H H2 := fun c o h n => b c o (a c o h n) n
theorem SameE.ofX {ex : List Addr} {t : Addr} {H H1 : Hp} (a : SameX t H H1) (h : t ∈ ex) : SameE ex H H1 := fun c o e n => a c o e (fun z => n (z ▸ h))
theorem SameE.of {ex : List Addr} {H H1 : Hp} (a : Same H H1) : SameE ex H H1 := fun c o e _ => a c o e
theorem SameE.upd {ex : List Addr} {H H1 : Hp} {p : Addr} (h : p ∈ ex) (o : HO) (a : SameE ex H H1) : SameE ex H (L2.upd H1 p o) := fun b u q n => by
  have ne : b ≠ p := fun z => n (z ▸ h)
  rw [upd_ne ne]; exact a b u q n
/-- what a schema's table may hold -/
structure TabOk (fr : List (Str × List Col)) (t : Tab) : Prop where
  nm : nameOk t.n
  co : ColsOk [] t.cols
  l0 : 1 ≤ t.cols.length
  l5 : t.cols.length ≤ 5
  c4 : t.ch.length ≤ 2
  cc : ∀ c ∈ t.ch, c.length ≤ 4 ∧ ∀ a ∈ c, a.length ≤ 4 ∧ ∀ cl ∈ a, ClOk t.cols cl
  u4 : t.un.length ≤ 4
  un : t.un.Nodup
  uc : ∀ n ∈ t.un, n ∈ colNs (t.cols.drop 1)
  r4 : t.rf.length ≤ 4
  rn : (t.rf.map (·.1)).Nodup
  rc : ∀ p ∈ t.rf, ∃ col ∈ t.cols.drop 1, col.n = p.1 ∧ p.2 ≠ t.n ∧ ∃ f ∈ fr, f.1 = p.2 ∧ ∃ kc, f.2[0]? = some kc ∧ kc.k = col.k
/-- a table that has no constraints yet -/
structure TabBare (t : Tab) : Prop where
  nm : nameOk t.n
  co : ColsOk [] t.cols
  l0 : 1 ≤ t.cols.length
  l5 : t.cols.length ≤ 5
  c0 : t.ch = []
  u0 : t.un = []
  r0 : t.rf = []
def frOf (s : Sch) : List (Str × List Col) := s.map fun p => (p.2.n, p.2.cols)
def spTable : Sp := fun vs H Q _ => ∃ (L : Addr) (cols : List Col), vs = [.ref L] ∧ ColsAt H L cols ∧ ∀ (a : Ads) (H' : Hp), (∀ n, DescAt H' a ⟨n, cols, [], [], []⟩) → Same H H' → H a.d = none → (∀ b ∈ adL a, H b = none) → (adL a).Nodup → Q (.ref a.d) H'
def spLimits : Sp := fun vs H Q _ => ∃ (t c S : Addr) (cs : List Int) (s : Sch) (a : Ads) (tab : Tab), vs = [.ref t, .ref S, .str tab.n] ∧ TapeAt H t c cs ∧ SchAt H S s t c ∧ s.length ≤ 6 ∧ (∀ p ∈ s, nameOk p.2.n ∧ 1 ≤ p.2.cols.length) ∧ (a, tab) ∈ s ∧ TabBare tab ∧
  ∀ (tab' : Tab) (H' : Hp), tab'.n = tab.n → tab'.cols = tab.cols → TabOk (frOf s) tab' → DescAt H' a tab' → TapeAt H' t c cs → KeepT H H' → SameE [t, a.k, a.u, a.r] H H' → Q .non H'
def spSchema : Sp := fun vs H Q _ => ∃ (t c : Addr) (cs : List Int) (least most : Int), vs = [.ref t, .int least, .int most] ∧ TapeAt H t c cs ∧ 0 ≤ least ∧ least ≤ most ∧ most ≤ 6 ∧
  ∀ (S : Addr) (s : Sch) (H' : Hp), SchAt H' S s t c → (∀ p ∈ s, TabOk (frOf s) p.2) → least ≤ s.length → (s.length : Int) ≤ most → TapeAt H' t c cs → SameX t H H' → Q (.ref S) H'
theorem mem_flat {s : Sch} {p : Ads × Tab} (h : p ∈ s) {b : Addr} (hb : b ∈ adL p.1) : b ∈ schL s := List.mem_flatMap.mpr ⟨p, h, hb⟩
theorem flat_one {s : Sch} (nd : (schL s).Nodup) {p q : Ads × Tab} (hp : p ∈ s) (hq : q ∈ s) {b : Addr} (h1 : b ∈ adL p.1) (h2 : b ∈ adL q.1) : p = q := by
  have nd := List.pairwise_flatMap.mp nd
  obtain ⟨i, hi, ei⟩ := List.getElem_of_mem hp
  obtain ⟨j, hj, ej⟩ := List.getElem_of_mem hq
  rcases Nat.lt_trichotomy i j with h | h | h
  · have := List.pairwise_iff_getElem.mp nd.2 i j hi hj h
    rw [ei, ej] at this
    exact absurd rfl (this b h1 b h2)
  · subst h; rw [← ei, ← ej]
  · have := List.pairwise_iff_getElem.mp nd.2 j i hj hi h
    rw [ei, ej] at this
    exact absurd rfl (this b h2 b h1)
theorem SchAt.tS {H : Hp} {S : Addr} {s : Sch} {t c : Addr} (h : SchAt H S s t c) : t ≠ S ∧ (∀ p ∈ s, p.1.d ≠ t) ∧ (∀ p ∈ s, p.1.d ≠ S) ∧ (∀ p ∈ s, ∀ b ∈ adL p.1, b ≠ c) := by
  have h1 := List.nodup_cons.mp h.dn
  have h2 := List.nodup_cons.mp h1.2
  have h3 := List.nodup_cons.mp h.ln
  refine ⟨fun e => h1.1 (by rw [e]; exact List.mem_cons_self), fun p hp e => h1.1 (List.mem_cons_of_mem _ (List.mem_map.mpr ⟨p, hp, e⟩)), fun p hp e => h2.1 (List.mem_map.mpr ⟨p, hp, e⟩), fun p hp b hb e => h3.1 (e ▸ mem_flat hp hb)⟩
theorem SchAt.monoX {H H' : Hp} {S : Addr} {s : Sch} {t c : Addr} {cs : List Int} (h : SchAt H S s t c) (T : TapeAt H t c cs) (e : SameX t H H') : SchAt H' S s t c := by
  obtain ⟨h1, h2, h3, _⟩ := h.tS
  refine ⟨e _ _ h.sk h1.symm, fun p hp => (h.ds p hp).frame (KeepT.ofX T e) (fun o z => e _ _ z (h2 p hp)) (fun b hb o z => e _ _ z ?_), h.nm, h.dn, h.ln⟩
  obtain ⟨xs, g⟩ := (h.ds p hp).isL b hb
  exact T.notL g
structure Lim (H H' : Hp) (t c : Addr) (cs : List Int) (a : Ads) (OL : Addr) (os : List Str) (conds : List Cond) (un : List Str) (rf : List (Str × Str)) : Prop where
  T : TapeAt H' t c cs
  kt : KeepT H H'
  se : SameE [t, a.k, a.u, a.r] H H'
  ol : H' OL = some (.lst (os.map V.str))
  ch : ∃ xs, H' a.k = some (.lst xs) ∧ TpL H' xs (conds.map condD)
  un : H' a.u = some (.lst (un.map V.str))
  rf : ∃ ys, H' a.r = some (.lst ys) ∧ TpL H' ys (rf.map rfD)
section
variable {H H' H2 : Hp} {t c : Addr} {cs : List Int} {a : Ads} {OL : Addr} {os : List Str} {conds : List Cond} {un : List Str} {rf : List (Str × Str)}
theorem Lim.stepX (L : Lim H H' t c cs a OL os conds un rf) (T2 : TapeAt H2 t c cs) (e : SameX t H' H2) : Lim H H2 t c cs a OL os conds un rf := by
  obtain ⟨T, kt, se, ol, ⟨xs, c1, c2⟩, un, ⟨ys, r1, r2⟩⟩ := L
  have k2 := KeepT.ofX T e
  exact ⟨T2, kt.trans k2, se.trans (SameE.ofX e (by simp)), e _ _ ol (T.notL ol), ⟨xs, e _ _ c1 (T.notL c1), c2.mono k2⟩, e _ _ un (T.notL un), ⟨ys, e _ _ r1 (T.notL r1), r2.mono k2⟩⟩
theorem Lim.step (L : Lim H H' t c cs a OL os conds un rf) (e : Same H' H2) : Lim H H2 t c cs a OL os conds un rf := by
  obtain ⟨T, kt, se, ol, ⟨xs, c1, c2⟩, un, ⟨ys, r1, r2⟩⟩ := L
  exact ⟨T.mono e, kt.trans (KeepT.of e), se.trans (SameE.of e), e _ _ ol, ⟨xs, e _ _ c1, c2.mono (KeepT.of e)⟩, e _ _ un, ⟨ys, e _ _ r1, r2.mono (KeepT.of e)⟩⟩
/-- what the schema shows while one table of it gets its constraints -/
theorem Lim.see {S : Addr} {s : Sch} {tab : Tab} (L : Lim H H' t c cs a OL os conds un rf) (A : SchAt H S s t c) (hm : (a, tab) ∈ s) (htk : ∃ kvs, H t = some (.dK kvs)) : DGet H' S (.str tab.n) (some (.ref a.d)) ∧ DGet H' a.d (.str "columns") (some (.ref a.c)) ∧ DGet H' a.d (.str "checks") (some (.ref a.k)) ∧ DGet H' a.d (.str "uniques") (some (.ref a.u)) ∧ DGet H' a.d (.str "references") (some (.ref a.r)) ∧ ColsAt H' a.c tab.cols ∧
    ∀ q ∈ s, DGet H' S (.str q.2.n) (some (.ref q.1.d)) ∧ DGet H' q.1.d (.str "columns") (some (.ref q.1.c)) ∧ ColsAt H' q.1.c q.2.cols := by
  obtain ⟨h1, h2, h3, h4⟩ := A.tS
  have D := A.ds _ hm
  have dl : ∀ {x : Addr} {kvs : List (Key × V)}, H x = some (.dK kvs) → x ≠ t → x ∉ [t, a.k, a.u, a.r] := by
    intro x kvs hx hxt hc
    have gl := D.isL
    simp only [List.mem_cons, List.not_mem_nil, or_false] at hc
    rcases hc with z | z | z | z
    · exact hxt z
    · obtain ⟨xs, g⟩ := gl a.k (by simp [adL]); rw [z, g] at hx; cases hx
    · obtain ⟨xs, g⟩ := gl a.u (by simp [adL]); rw [z, g] at hx; cases hx
    · obtain ⟨xs, g⟩ := gl a.r (by simp [adL]); rw [z, g] at hx; cases hx
  have hS : H' S = some (.dK (schK s)) := L.se _ _ A.sk (dl A.sk h1.symm)
  have all : ∀ q ∈ s, DGet H' S (.str q.2.n) (some (.ref q.1.d)) ∧ H' q.1.d = some (.dK (descD q.1)) ∧ ColsAt H' q.1.c q.2.cols := by
    intro q hq
    have g := DGet.k (k := (Sum.inr q.2.n : Key)) hS
    rw [sch_get A.nm hq] at g
    have Dq := A.ds q hq
    refine ⟨g, L.se _ _ Dq.dk (dl Dq.dk (h2 q hq)), Dq.co.mono L.kt fun o ho => L.se _ _ ho fun hc => ?_⟩
    have hb : q.1.c ∈ adL q.1 := by simp [adL]
    have nd := (List.nodup_cons.mp A.ln).2
    have one : ∀ b, b ∈ adL a → q.1.c = b → b = a.c := by
      intro b hba e
      have := flat_one nd hq hm hb (by rw [e]; exact hba)
      rw [← e, this]
    have ndA : (adL a).Nodup := (List.pairwise_flatMap.mp nd).1 _ hm
    simp only [adL, List.nodup_cons, List.mem_cons, List.not_mem_nil, or_false, not_or] at ndA
    simp only [List.mem_cons, List.not_mem_nil, or_false] at hc
    rcases hc with z | z | z | z
    · obtain ⟨kvs, e⟩ := htk
      obtain ⟨xs, g⟩ := Dq.isL q.1.c hb
      rw [z, e] at g; cases g
    · exact ndA.1.1 (one a.k (by simp [adL]) z).symm
    · exact ndA.1.2.1 (one a.u (by simp [adL]) z).symm
    · exact ndA.1.2.2 (one a.r (by simp [adL]) z).symm
  obtain ⟨g1, g2, g3⟩ := all _ hm
  have gg : ∀ {q : Ads}, H' q.d = some (.dK (descD q)) → DGet H' q.d (.str "columns") (some (.ref q.c)) := fun {q} e => by
    have g := DGet.k (k := (Sum.inr ("columns" : Str) : Key)) e; rw [dd_c] at g; exact g
  refine ⟨g1, gg g2, ?_, ?_, ?_, g3, fun q hq => ?_⟩
  · have g := DGet.k (k := (Sum.inr ("checks" : Str) : Key)) g2; rw [dd_k] at g; exact g
  · have g := DGet.k (k := (Sum.inr ("uniques" : Str) : Key)) g2; rw [dd_u] at g; exact g
  · have g := DGet.k (k := (Sum.inr ("references" : Str) : Key)) g2; rw [dd_r] at g; exact g
  · obtain ⟨q1, q2, q3⟩ := all q hq
    exact ⟨q1, gg q2, q3⟩
end
/-- a list of texts, compared with the empty one -/
theorem strs_dp {K : PySem.W.Frag} {H : Hp} : ∀ xs : List Str, DpAll K H (xs.map V.str) (xs.map PyData.str)
  | [] => .nil
  | x :: r => .cons (.str x) (strs_dp r)
theorem strs_lay : ∀ xs : List Str, (∀ x ∈ xs, PyData.strOk x = true) → PyData.canLayAll0 (xs.map PyData.str) = true ∧ PyData.depthAll (xs.map PyData.str) ≤ 1
  | [], _ => by simp [PyData.canLayAll0, PyData.depthAll]
  | x :: r, h => by
    obtain ⟨a, b⟩ := strs_lay r fun y hy => h y (List.mem_cons_of_mem _ hy)
    have hx := h x List.mem_cons_self
    constructor
    · simp [PyData.canLayAll0, PyData.canLay0, a, hx]
    · simp only [List.map_cons, PyData.depthAll, PyData.depth]
      omega
theorem strs_shaped {xs : List Str} (h : ∀ x ∈ xs, PyData.strOk x = true) : SeqAt.shaped (.list (xs.map PyData.str)) = true := by
  obtain ⟨a, b⟩ := strs_lay xs h
  simp only [SeqAt.shaped, PyData.canLay0, a, Bool.true_and, PyData.depth]
  exact decide_eq_true (by omega)
theorem strs_eqv (xs : List Str) : PyData.eqv (.list (xs.map PyData.str)) (.list []) = xs.isEmpty := by cases xs <;> rfl
theorem nameOk.str {z : Str} (h : nameOk z) : PyData.strOk z = true := strOk_of fun c hc => (h.2.2 c hc).ok
/-- one table's description has changed, all else stands -/
theorem SchAt.set {H H' : Hp} {S : Addr} {s : Sch} {t c : Addr} {i : Nat} {a : Ads} {tab tab' : Tab} (h : SchAt H S s t c) (ht : ∃ kvs, H t = some (.dK kvs)) (hi : s[i]? = some (a, tab)) (hn : tab'.n = tab.n) (hd : DescAt H' a tab') (kt : KeepT H H') (e : SameE [t, a.k, a.u, a.r] H H') : SchAt H' S (s.set i (a, tab')) t c := by
  obtain ⟨h1, h2, h3, h4⟩ := h.tS
  have hm : (a, tab) ∈ s := List.mem_of_getElem? hi
  have hil : i < s.length := (List.getElem?_eq_some_iff.mp hi).1
  have dl : ∀ {x : Addr} {kvs : List (Key × V)}, H x = some (.dK kvs) → x ≠ t → x ∉ [t, a.k, a.u, a.r] := by
    intro x kvs hx hxt hc
    have gl := (h.ds _ hm).isL
    simp only [List.mem_cons, List.not_mem_nil, or_false] at hc
    rcases hc with z | z | z | z
    · exact hxt z
    · obtain ⟨xs, g⟩ := gl a.k (by simp [adL]); rw [z, g] at hx; cases hx
    · obtain ⟨xs, g⟩ := gl a.u (by simp [adL]); rw [z, g] at hx; cases hx
    · obtain ⟨xs, g⟩ := gl a.r (by simp [adL]); rw [z, g] at hx; cases hx
  have ek : schK (s.set i (a, tab')) = schK s := by
    unfold schK
    rw [List.map_set]
    refine List.ext_getElem? fun j => ?_
    rw [List.getElem?_set]
    split
    · rename_i hj; subst hj
      rw [List.getElem?_map, hi, if_pos (by rw [List.length_map]; exact hil)]
      show some ((Sum.inr tab'.n : Key), V.ref a.d) = _
      rw [hn]; rfl
    · rfl
  have en : schN (s.set i (a, tab')) = schN s := by
    unfold schN
    rw [List.map_set]
    refine List.ext_getElem? fun j => ?_
    rw [List.getElem?_set]
    split
    · rename_i hj; subst hj
      rw [List.getElem?_map, hi, if_pos (by rw [List.length_map]; exact hil)]
      exact congrArg some hn
    · rfl
  have ea : (s.set i (a, tab')).map (fun p => p.1) = s.map (fun p => p.1) := by
    rw [List.map_set]
    refine List.ext_getElem? fun j => ?_
    rw [List.getElem?_set]
    split
    · rename_i hj; subst hj
      rw [List.getElem?_map, hi, if_pos (by rw [List.length_map]; exact hil)]
      rfl
    · rfl
  have ed : (s.set i (a, tab')).map (fun p => p.1.d) = s.map (fun p => p.1.d) := by
    have := congrArg (List.map fun x : Ads => x.d) ea
    rw [List.map_map, List.map_map] at this
    exact this
  have el : schL (s.set i (a, tab')) = schL s := by
    have := congrArg (List.flatMap fun x : Ads => adL x) ea
    rw [List.flatMap_map, List.flatMap_map] at this
    exact this
  refine ⟨?_, fun p hp => ?_, by rw [en]; exact h.nm, by rw [ed]; exact h.dn, by rw [el]; exact h.ln⟩
  · rw [ek]; exact e _ _ h.sk (dl h.sk h1.symm)
  · obtain ⟨j, hj, ej⟩ := List.getElem_of_mem hp
    rw [List.getElem_set] at ej
    split at ej
    · rw [← ej]; exact hd
    · rename_i hne
      rw [List.length_set] at hj
      have hps : p ∈ s := by rw [← ej]; exact List.getElem_mem hj
      have D := h.ds p hps
      refine D.frame kt (fun o z => e _ _ z (by rw [D.dk] at z; cases z; exact dl D.dk (h2 p hps))) (fun b hb o z => e _ _ z fun hc => ?_)
      have hb2 : b ∈ adL a ∨ b = t := by
        simp only [List.mem_cons, List.not_mem_nil, or_false] at hc
        rcases hc with z | z | z | z
        · exact .inr z
        · exact .inl (by rw [z]; simp [adL])
        · exact .inl (by rw [z]; simp [adL])
        · exact .inl (by rw [z]; simp [adL])
      rcases hb2 with hb2 | hb2
      · have eq := flat_one (List.nodup_cons.mp h.ln).2 hps hm hb hb2
        have hi' : s[i] = (a, tab) := by rw [List.getElem?_eq_getElem hil] at hi; exact Option.some.inj hi
        have b1 : (schN s)[j]? = some tab.n := by unfold schN; rw [List.getElem?_map, List.getElem?_eq_getElem hj, ej, eq]; rfl
        have b2 : (schN s)[i]? = some tab.n := by unfold schN; rw [List.getElem?_map, hi]; rfl
        exact hne (nd_ix h.nm b2 b1)
      · obtain ⟨xs, g⟩ := D.isL b hb
        obtain ⟨kvs, h5⟩ := ht
        rw [hb2, h5] at g
        cases g
end Lt

set_option autoImplicit false
namespace Lt
open PySem L2 TL
open C8 (pss_cut)
/-! ## a schema in the making -/
theorem putK_fresh {kvs : List (Key × V)} {k : Key} {v : V} (h : k ∉ kvs.map (·.1)) : putK kvs k v = kvs ++ [(k, v)] := by
  unfold putK
  rw [if_neg]
  intro z
  obtain ⟨x, h1, h2⟩ := List.any_eq_true.mp z
  exact h (List.mem_map.mpr ⟨x, h1, of_decide_eq_true h2⟩)
theorem schK_new {s : Sch} {a : Ads} {tab : Tab} (h : tab.n ∉ schN s) : putK (schK s) (Sum.inr tab.n : Key) (.ref a.d) = schK (s ++ [(a, tab)]) := by
  rw [putK_fresh]
  · unfold schK; rw [List.map_append]; rfl
  · rw [sch_keys]
    intro z
    obtain ⟨x, h1, h2⟩ := List.mem_map.mp z
    cases h2
    exact h h1
theorem SchAt.notS {H : Hp} {S : Addr} {s : Sch} {t c : Addr} (A : SchAt H S s t c) : ∀ p ∈ s, ∀ b ∈ adL p.1, b ≠ S := fun p hp b hb e => by
  obtain ⟨xs, g⟩ := (A.ds p hp).isL b hb
  rw [e, A.sk] at g
  cases g
theorem SchAt.add {H : Hp} {S t c : Addr} {s : Sch} {a : Ads} {tab : Tab} (A : SchAt H S s t c) (D : DescAt H a tab) (hz : tab.n ∉ schN s) (hd : a.d ≠ t ∧ a.d ≠ S ∧ ∀ p ∈ s, a.d ≠ p.1.d)
    (hl : ∀ b ∈ adL a, b ≠ c ∧ b ∉ schL s) (nd : (adL a).Nodup) : SchAt (upd H S (.dK (schK (s ++ [(a, tab)])))) S (s ++ [(a, tab)]) t c := by
  obtain ⟨h1, h2, h3, h4⟩ := A.tS
  have kt : KeepT H (upd H S (.dK (schK (s ++ [(a, tab)])))) := KeepT.lock A.sk
  have fr : ∀ {a' : Ads} {tab' : Tab}, DescAt H a' tab' → a'.d ≠ S → DescAt (upd H S (.dK (schK (s ++ [(a, tab)])))) a' tab' := fun {a' tab'} D' ne =>
    D'.frame kt (fun o z => by rw [upd_ne ne]; exact z) (fun b hb o z => by
      have : b ≠ S := fun e => by
        obtain ⟨xs, g⟩ := D'.isL b hb
        rw [e, A.sk] at g; cases g
      rw [upd_ne this]; exact z)
  refine ⟨upd_same, fun p hp => ?_, ?_, ?_, ?_⟩
  · rcases List.mem_append.mp hp with hp | hp
    · exact fr (A.ds p hp) (h3 p hp)
    · rw [List.mem_singleton.mp hp]; exact fr D hd.2.1
  · unfold schN
    rw [List.map_append]
    refine List.nodup_append.mpr ⟨A.nm, by simp, fun x hx y hy => ?_⟩
    have : y = tab.n := by simpa using hy
    subst this
    rintro rfl
    exact hz hx
  · rw [List.map_append]
    show ((t :: S :: s.map fun p => p.1.d) ++ [a.d]).Nodup
    refine List.nodup_append.mpr ⟨A.dn, by simp, fun x hx y hy => ?_⟩
    have : y = a.d := by simpa using hy
    subst this
    rcases List.mem_cons.mp hx with rfl | hx
    · exact hd.1.symm
    · rcases List.mem_cons.mp hx with rfl | hx
      · exact hd.2.1.symm
      · obtain ⟨p, hp, e⟩ := List.mem_map.mp hx
        rw [← e]; exact (hd.2.2 p hp).symm
  · have e : schL (s ++ [(a, tab)]) = schL s ++ adL a := by unfold schL; rw [List.flatMap_append]; simp
    rw [e]
    show ((c :: schL s) ++ adL a).Nodup
    refine List.nodup_append.mpr ⟨A.ln, nd, fun x hx y hy => ?_⟩
    rintro rfl
    rcases List.mem_cons.mp hx with e | hx
    · exact (hl x hy).1 e
    · exact (hl x hy).2 hx
/-- all stands but the tape and a list that is no part of it -/
theorem SchAt.monoXY {H H' : Hp} {S U : Addr} {s : Sch} {t c : Addr} {cs : List Int} {us : List V} (h : SchAt H S s t c) (T : TapeAt H t c cs) (hU : H U = some (.lst us)) (nU : U ∉ schL s) (e : SameXY t U H H') : SchAt H' S s t c := by
  obtain ⟨h1, h2, h3, _⟩ := h.tS
  have nl : ∀ {b : Addr} {kvs : List (Key × V)}, H b = some (.dK kvs) → b ≠ U := fun hb z => by rw [z, hU] at hb; cases hb
  refine ⟨e _ _ h.sk h1.symm (nl h.sk), fun p hp => (h.ds p hp).frame (KeepT.ofXY T hU e) (fun o z => e _ _ z (h2 p hp) (nl (h.ds p hp).dk)) (fun b hb o z => e _ _ z ?_ ?_), h.nm, h.dn, h.ln⟩
  · obtain ⟨xs, g⟩ := (h.ds p hp).isL b hb
    exact T.notL g
  · rintro rfl; exact nU (mem_flat hp hb)
theorem SameXY.free {t u : Addr} {H H' : Hp} (e : SameXY t u H H') {b : Addr} (h1 : b ≠ t) (h2 : b ≠ u) (h : H' b = none) : H b = none := by
  cases z : H b with
  | none => rfl
  | some o => have := e _ _ z h1 h2; rw [h] at this; cases this
theorem set_map {α β : Type} {s : List α} {i : Nat} {x y : α} (f : α → β) (h : s[i]? = some x) (e : f y = f x) : (s.set i y).map f = s.map f := by
  have hil : i < s.length := (List.getElem?_eq_some_iff.mp h).1
  rw [List.map_set]
  refine List.ext_getElem? fun j => ?_
  rw [List.getElem?_set]
  split
  · rename_i hj; subst hj
    rw [List.getElem?_map, h, if_pos (by rw [List.length_map]; exact hil), e]
    rfl
  · rfl
/-- a schema whose tables get their constraints one after another: those in done have them -/
structure Half (H0 H' : Hp) (t c : Addr) (cs : List Int) (S : Addr) (s s' : Sch) (done : List Str) : Prop where
  A : SchAt H' S s' t c
  T : TapeAt H' t c cs
  ads : s'.map (·.1) = s.map (·.1)
  fr : frOf s' = frOf s
  ok : ∀ p ∈ s', p.2.n ∈ done → TabOk (frOf s) p.2
  ba : ∀ p ∈ s', p.2.n ∉ done → TabBare p.2
  se : SameX t H0 H'
  new : ∀ b ∈ schL s', H0 b = none
theorem schN_of {s s' : Sch} (h : frOf s' = frOf s) : schN s' = schN s := by
  have := congrArg (List.map (·.1)) h
  unfold frOf at this
  rw [List.map_map, List.map_map] at this
  exact this
theorem schL_of {s s' : Sch} (h : s'.map (·.1) = s.map (·.1)) : schL s' = schL s := by
  have := congrArg (List.flatMap fun x : Ads => adL x) h
  rw [List.flatMap_map, List.flatMap_map] at this
  exact this
theorem Half.put {H0 H1 H2 : Hp} {t c : Addr} {cs : List Int} {S : Addr} {s s' : Sch} {done : List Str} {a : Ads} {tab tab' : Tab} (L : Half H0 H1 t c cs S s s' done) (hm : (a, tab) ∈ s')
    (hn : tab'.n = tab.n) (hc : tab'.cols = tab.cols) (ok : TabOk (frOf s') tab') (D : DescAt H2 a tab') (T : TapeAt H2 t c cs) (kt : KeepT H1 H2) (e : SameE [t, a.k, a.u, a.r] H1 H2) :
    ∃ s2, Half H0 H2 t c cs S s s2 (done ++ [tab.n]) := by
  obtain ⟨i, hi, ei⟩ := List.getElem_of_mem hm
  have hi' : s'[i]? = some (a, tab) := by rw [List.getElem?_eq_getElem hi, ei]
  have ht : ∃ kvs, H1 t = some (.dK kvs) := by obtain ⟨_, _, _, _, e, _⟩ := L.T.dk; exact ⟨_, e⟩
  have f1 : frOf (s'.set i (a, tab')) = frOf s := by
    rw [← L.fr]
    exact set_map (fun p : Ads × Tab => (p.2.n, p.2.cols)) hi' (by show (tab'.n, tab'.cols) = (tab.n, tab.cols); rw [hn, hc])
  have f2 : (s'.set i (a, tab')).map (·.1) = s.map (·.1) := by rw [← L.ads]; exact set_map (fun p : Ads × Tab => p.1) hi' rfl
  have back : ∀ p ∈ s'.set i (a, tab'), p = (a, tab') ∨ (p ∈ s' ∧ p.2.n ≠ tab.n) := by
    intro p hp
    obtain ⟨j, hj, ej⟩ := List.getElem_of_mem hp
    rw [List.getElem_set] at ej
    split at ej
    · exact .inl ej.symm
    · rename_i hne
      rw [List.length_set] at hj
      have hps : p ∈ s' := by rw [← ej]; exact List.getElem_mem hj
      refine .inr ⟨hps, fun z => ?_⟩
      have b1 : (schN s')[j]? = some tab.n := by unfold schN; rw [List.getElem?_map, List.getElem?_eq_getElem hj, ej, ← z]; rfl
      have b2 : (schN s')[i]? = some tab.n := by unfold schN; rw [List.getElem?_map, hi']; rfl
      exact hne (nd_ix L.A.nm b2 b1)
  refine ⟨s'.set i (a, tab'), L.A.set ht hi' hn D kt e, T, f2, f1, ?_, ?_, ?_, ?_⟩
  · intro p hp hd
    rcases back p hp with rfl | ⟨h1, h2⟩
    · rw [← L.fr]; exact ok
    · rcases List.mem_append.mp hd with hd | hd
      · exact L.ok p h1 hd
      · exact absurd (List.mem_singleton.mp hd) h2
  · intro p hp hd
    rcases back p hp with rfl | ⟨h1, h2⟩
    · exact absurd (List.mem_append.mpr (.inr (by rw [List.mem_singleton]; exact hn))) hd
    · exact L.ba p h1 fun z => hd (List.mem_append.mpr (.inl z))
  · intro b o hb hbt
    have g := L.se b o hb hbt
    refine e b o g fun hc => ?_
    simp only [List.mem_cons, List.not_mem_nil, or_false] at hc
    have nw : ∀ x ∈ adL a, b ≠ x := fun x hx z => by
      have := L.new x (mem_flat hm hx)
      rw [← z, hb] at this; cases this
    rcases hc with z | z | z | z
    · exact hbt z
    · exact nw a.k (by simp [adL]) z
    · exact nw a.u (by simp [adL]) z
    · exact nw a.r (by simp [adL]) z
  · rw [schL_of (f2.trans L.ads.symm)]; exact L.new
end Lt

set_option autoImplicit false
namespace Lt
open PySem L2 TL
open C8 (pss_cut)
/-! ## schemas as data; what they say of columns and tables -/
mutual
def gOf : D → G
  | .s v => .s v
  | .t ds => .t (gOfL ds)
def gOfL : List D → List G
  | [] => []
  | d :: ds => gOf d :: gOfL ds
end
mutual
def D.sm : D → Bool
  | .s _ => true
  | .t ds => decide (ds.length ≤ 1000) && smL ds
def smL : List D → Bool
  | [] => true
  | d :: ds => d.sm && smL ds
end
theorem gOfL_map : ∀ ds : List D, gOfL ds = ds.map gOf
  | [] => rfl
  | d :: ds => by simp only [gOfL, List.map_cons]; rw [gOfL_map ds]
theorem smL_all : ∀ {ds : List D}, smL ds = true ↔ ∀ d ∈ ds, d.sm = true
  | [] => by simp [smL]
  | d :: ds => by simp only [smL, Bool.and_eq_true, List.forall_mem_cons]; rw [smL_all]
theorem sm_t {ds : List D} (h : ds.length ≤ 1000) (k : ∀ d ∈ ds, d.sm = true) : (D.t ds).sm = true := by
  simp only [D.sm, Bool.and_eq_true, decide_eq_true_eq]
  exact ⟨h, smL_all.mpr k⟩
mutual
theorem Tp.g {H : Hp} : ∀ {d : D} {v : V}, Tp H v d → d.sm = true → Gp H v (gOf d) []
  | .s _, _, h, _ => by cases h with | s h => exact .s h
  | .t ds, _, h, k => by
    cases h with
    | t h r =>
      simp only [D.sm, Bool.and_eq_true, decide_eq_true_eq] at k
      exact .t h (by rw [r.length]; exact k.1) (TpL.g r k.2)
theorem TpL.g {H : Hp} : ∀ {ds : List D} {vs : List V}, TpL H vs ds → smL ds = true → GpL H vs (gOfL ds) []
  | [], _, h, _ => by cases h; exact .nil
  | d :: ds, _, h, k => by
    cases h with
    | cons h r =>
      simp only [smL, Bool.and_eq_true] at k
      exact GpL.cons (D := []) (E := []) (Tp.g h k.1) (TpL.g r k.2)
end
mutual
def D.dp : D → Nat
  | .s _ => 0
  | .t ds => dpL ds + 1
def dpL : List D → Nat
  | [] => 0
  | d :: ds => max d.dp (dpL ds)
end
mutual
theorem dep_gOf : ∀ d : D, (gOf d).dep = d.dp
  | .s _ => rfl
  | .t ds => by simp only [gOf, G.dep, D.dp]; rw [dep_gOfL ds]
theorem dep_gOfL : ∀ ds : List D, depL (gOfL ds) = dpL ds
  | [] => rfl
  | d :: ds => by simp only [gOfL, depL, dpL]; rw [dep_gOf d, dep_gOfL ds]
end
theorem depL_le {n : Nat} : ∀ {gs : List G}, (∀ g ∈ gs, g.dep ≤ n) → depL gs ≤ n
  | [], _ => Nat.zero_le _
  | g :: gs, h => by
    simp only [depL]
    have a := h g List.mem_cons_self
    have b := depL_le fun x hx => h x (List.mem_cons_of_mem _ hx)
    omega
theorem depK_le {n : Nat} : ∀ {gs : List (Key × G)}, (∀ p ∈ gs, p.2.dep ≤ n) → depK gs ≤ n
  | [], _ => Nat.zero_le _
  | (k, g) :: gs, h => by
    simp only [depK]
    have a := h _ List.mem_cons_self
    have b := depK_le fun x hx => h x (List.mem_cons_of_mem _ hx)
    simp only at a
    omega
theorem dpL_le {n : Nat} : ∀ {gs : List D}, (∀ g ∈ gs, g.dp ≤ n) → dpL gs ≤ n
  | [], _ => Nat.zero_le _
  | g :: gs, h => by
    simp only [dpL]
    have a := h g List.mem_cons_self
    have b := dpL_le fun x hx => h x (List.mem_cons_of_mem _ hx)
    omega
theorem col_sm (c : Col) : (colD c).sm = true := rfl
theorem col_dp (c : Col) : (colD c).dp = 1 := rfl
theorem rf_sm (c : Str × Str) : (rfD c).sm = true := rfl
theorem rf_dp (c : Str × Str) : (rfD c).dp = 1 := rfl
theorem cl_sm (c : Cl) : (clD c).sm = true := rfl
theorem cl_dp (c : Cl) : (clD c).dp = 1 := rfl
theorem cond_sm {c : Cond} (h : c.length ≤ 1000) (k : ∀ a ∈ c, a.length ≤ 1000) : (condD c).sm = true := by
  refine sm_t (by rw [List.length_map]; exact h) fun d hd => ?_
  obtain ⟨a, ha, rfl⟩ := List.mem_map.mp hd
  refine sm_t (by rw [List.length_map]; exact k a ha) fun d hd => ?_
  obtain ⟨cl, _, rfl⟩ := List.mem_map.mp hd
  exact cl_sm cl
theorem cond_dp (c : Cond) : (condD c).dp ≤ 3 := by
  have : dpL (c.map altD) ≤ 2 := by
    refine dpL_le fun d hd => ?_
    obtain ⟨a, _, rfl⟩ := List.mem_map.mp hd
    have : dpL (a.map clD) ≤ 1 := dpL_le fun d hd => by
      obtain ⟨cl, _, rfl⟩ := List.mem_map.mp hd
      exact Nat.le_of_eq (cl_dp cl)
    simp only [altD, D.dp]; omega
  simp only [condD, D.dp]; omega
/-- a list of tuples as data -/
def lG (ds : List D) : G := .l (gOfL ds)
def strsG (xs : List Str) : G := .l (xs.map fun x => .s (.str x))
theorem strsG_L {H : Hp} : ∀ xs : List Str, GpL H (xs.map V.str) (xs.map fun x => G.s (.str x)) []
  | [] => .nil
  | x :: r => GpL.cons (D := []) (E := []) (.s rfl) (strsG_L r)
theorem strsG_at {H : Hp} {N : Addr} {xs : List Str} (h : H N = some (.lst (xs.map V.str))) (hl : xs.length ≤ 1000) : Gp H (.ref N) (strsG xs) [N] := .l h (by rw [List.length_map]; exact hl) (strsG_L xs)
theorem strsG_dep (xs : List Str) : (strsG xs).dep ≤ 1 := by
  have : depL (xs.map fun x => G.s (.str x)) ≤ 0 := depL_le fun g hg => by
    obtain ⟨x, _, rfl⟩ := List.mem_map.mp hg
    exact Nat.le_refl 0
  simp only [strsG, G.dep]; omega
def descG (t : Tab) : G := .d [(Sum.inr ("columns" : Str), lG (t.cols.map colD)), (Sum.inr ("checks" : Str), lG (t.ch.map condD)), (Sum.inr ("uniques" : Str), strsG t.un), (Sum.inr ("references" : Str), lG (t.rf.map rfD))]
def tabsG (ts : List Tab) : List (Key × G) := ts.map fun t => ((Sum.inr t.n : Key), descG t)
def schG (s : Sch) : G := .d (tabsG (s.map (·.2)))
/-- sizes that any schema here keeps to -/
structure TabSm (t : Tab) : Prop where
  co : t.cols.length ≤ 40
  ch : t.ch.length ≤ 40
  cc : ∀ c ∈ t.ch, c.length ≤ 20 ∧ ∀ a ∈ c, a.length ≤ 20
  un : t.un.length ≤ 40
  rf : t.rf.length ≤ 40
theorem TabOk.sm {fr : List (Str × List Col)} {t : Tab} (h : TabOk fr t) : TabSm t := by
  have h1 := h.l5
  have h2 := h.c4
  have h3 := h.u4
  have h4 := h.r4
  exact ⟨by omega, by omega, fun c hc => by
    obtain ⟨a, b⟩ := h.cc c hc
    exact ⟨by omega, fun x hx => by have := (b x hx).1; omega⟩, by omega, by omega⟩
theorem lG_dep {ds : List D} {n : Nat} (h : ∀ d ∈ ds, d.dp ≤ n) : (lG ds).dep ≤ n + 1 := by
  simp only [lG, G.dep]
  rw [dep_gOfL]
  have := dpL_le h
  omega
theorem desc_dep (t : Tab) : (descG t).dep ≤ 5 := by
  have : depK [((Sum.inr ("columns" : Str) : Key), lG (t.cols.map colD)), (Sum.inr ("checks" : Str), lG (t.ch.map condD)), (Sum.inr ("uniques" : Str), strsG t.un), (Sum.inr ("references" : Str), lG (t.rf.map rfD))] ≤ 4 := by
    refine depK_le fun p hp => ?_
    simp only [List.mem_cons, List.not_mem_nil, or_false] at hp
    rcases hp with rfl | rfl | rfl | rfl
    · exact Nat.le_trans (lG_dep (n := 1) fun d hd => by obtain ⟨x, _, rfl⟩ := List.mem_map.mp hd; exact Nat.le_of_eq (col_dp x)) (by decide)
    · exact lG_dep (n := 3) fun d hd => by obtain ⟨x, _, rfl⟩ := List.mem_map.mp hd; exact cond_dp x
    · exact Nat.le_trans (strsG_dep _) (by decide)
    · exact Nat.le_trans (lG_dep (n := 1) fun d hd => by obtain ⟨x, _, rfl⟩ := List.mem_map.mp hd; exact Nat.le_of_eq (rf_dp x)) (by decide)
  simp only [descG, G.dep]; omega
theorem sch_dep (s : Sch) : (schG s).dep ≤ 6 := by
  have : depK (tabsG (s.map (·.2))) ≤ 5 := depK_le fun p hp => by
    obtain ⟨t, _, rfl⟩ := List.mem_map.mp hp
    exact desc_dep t
  simp only [schG, G.dep]; omega
theorem desc_nd (a : Ads) : ((descD a).map (·.1)).Nodup := by
  simp only [descD, List.map_cons, List.map_nil, List.nodup_cons, List.mem_cons, List.not_mem_nil, or_false, not_or, not_false_eq_true, List.nodup_nil, and_true]
  refine ⟨⟨fun z => e_co_ch (Sum.inr.inj z), fun z => e_co_un (Sum.inr.inj z), fun z => e_co_rf (Sum.inr.inj z)⟩, ⟨fun z => e_ch_un (Sum.inr.inj z), fun z => e_ch_rf (Sum.inr.inj z)⟩, fun z => e_un_rf (Sum.inr.inj z)⟩
theorem DescAt.g {H : Hp} {a : Ads} {t : Tab} (h : DescAt H a t) (k : TabSm t) : Gp H (.ref a.d) (descG t) (a.d :: adL a) := by
  obtain ⟨xs, h2, r2⟩ := h.co
  obtain ⟨ys, h3, r3⟩ := h.ch
  obtain ⟨zs, h5, r5⟩ := h.rf
  have g2 : Gp H (.ref a.c) (lG (t.cols.map colD)) [a.c] := .l h2 (by have := k.co; rw [r2.length, List.length_map]; omega) (r2.g (smL_all.mpr fun d hd => by obtain ⟨x, _, rfl⟩ := List.mem_map.mp hd; rfl))
  have g3 : Gp H (.ref a.k) (lG (t.ch.map condD)) [a.k] := .l h3 (by have := k.ch; rw [r3.length, List.length_map]; omega) (r3.g (smL_all.mpr fun d hd => by
    obtain ⟨x, hx, rfl⟩ := List.mem_map.mp hd
    have := k.cc x hx
    exact cond_sm (by omega) fun a ha => by have := this.2 a ha; omega))
  have g4 : Gp H (.ref a.u) (strsG t.un) [a.u] := strsG_at h.un (by have := k.un; omega)
  have g5 : Gp H (.ref a.r) (lG (t.rf.map rfD)) [a.r] := .l h5 (by have := k.rf; rw [r5.length, List.length_map]; omega) (r5.g (smL_all.mpr fun d hd => by obtain ⟨x, _, rfl⟩ := List.mem_map.mp hd; rfl))
  refine .d h.dk (by show 4 ≤ 1000; decide) (desc_nd a) (D := adL a) (GpK.cons (D := [a.c]) (E := [a.k, a.u, a.r]) g2 (GpK.cons (D := [a.k]) (E := [a.u, a.r]) g3 (GpK.cons (D := [a.u]) (E := [a.r]) g4 (GpK.cons (D := [a.r]) (E := []) g5 .nil)))) fun hm => ?_
  obtain ⟨ys, e⟩ := h.isL _ hm
  rw [h.dk] at e
  cases e
def schD (s : Sch) : List Addr := s.flatMap fun p => p.1.d :: adL p.1
theorem tabs_gp {H : Hp} : ∀ {s : Sch}, (∀ p ∈ s, DescAt H p.1 p.2) → (∀ p ∈ s, TabSm p.2) → GpK H (schK s) (tabsG (s.map (·.2))) (schD s)
  | [], _, _ => .nil
  | p :: r, h, k => by
    have := tabs_gp (fun q hq => h q (List.mem_cons_of_mem _ hq)) (fun q hq => k q (List.mem_cons_of_mem _ hq))
    exact GpK.cons ((h p List.mem_cons_self).g (k p List.mem_cons_self)) this
theorem sch_gp {H : Hp} {S : Addr} {s : Sch} (hs : H S = some (.dK (schK s))) (hd : ∀ p ∈ s, DescAt H p.1 p.2) (nm : (schN s).Nodup) (k : ∀ p ∈ s, TabSm p.2) (l : s.length ≤ 100) (ne : ∀ p ∈ s, p.1.d ≠ S) : Gp H (.ref S) (schG s) (S :: schD s) := by
  refine .d hs (by unfold schK; rw [List.length_map]; omega) (sch_nd nm) (tabs_gp hd k) fun hm => ?_
  obtain ⟨p, hp, hb⟩ := List.mem_flatMap.mp hm
  rcases List.mem_cons.mp hb with e | hb
  · exact ne p hp e.symm
  · obtain ⟨xs, e⟩ := (hd p hp).isL _ hb
    rw [hs] at e
    cases e
theorem SchAt.g {H : Hp} {S t c : Addr} {s : Sch} (A : SchAt H S s t c) (k : ∀ p ∈ s, TabSm p.2) (l : s.length ≤ 100) : Gp H (.ref S) (schG s) (S :: schD s) := sch_gp A.sk A.ds A.nm k l A.tS.2.2.1
/-! ### is a column used, is a table referenced -/
def usedM (t : Tab) (n : Str) : Bool := t.ch.any (mentM n) || (decide (n ∈ t.un) || decide (n ∈ t.rf.map (·.1)))
def refdM (ts : List Tab) (n : Str) : Bool := ts.any fun t => t.rf.any fun r => decide (r.2 = n)
def spColumnNames : Sp := fun vs H Q _ => ∃ (d L : Addr) (cols : List Col), vs = [.ref d] ∧ DGet H d (.str "columns") (some (.ref L)) ∧ ColsAt H L cols ∧ cols.length ≤ 100 ∧ ∀ N H', H N = none → Same H H' → H' N = some (.lst ((colNs cols).map V.str)) → Q (.ref N) H'
def spCopyDesc : Sp := fun vs H Q _ => ∃ (a : Ads) (tab : Tab), vs = [.ref a.d] ∧ DescAt H a tab ∧ ∀ a' H', DescAt H' a' tab → Same H H' → H a'.d = none → (∀ b ∈ adL a', H b = none) → (adL a').Nodup → Q (.ref a'.d) H'
/-- a schema, made anew -/
structure NewSch (H H' : Hp) (S : Addr) (s : Sch) (ts : List Tab) : Prop where
  sk : H' S = some (.dK (schK s))
  ds : ∀ p ∈ s, DescAt H' p.1 p.2
  ts : s.map (·.2) = ts
  fS : H S = none
  fd : ∀ p ∈ s, H p.1.d = none ∧ p.1.d ≠ S ∧ ∀ b ∈ adL p.1, H b = none
  dn : (s.map fun p => p.1.d).Nodup
  ln : (schL s).Nodup
  se : Same H H'
def spCopySchema : Sp := fun vs H Q _ => ∃ (S : Addr) (s : Sch), vs = [.ref S] ∧ H S = some (.dK (schK s)) ∧ (∀ p ∈ s, DescAt H p.1 p.2) ∧ (schN s).Nodup ∧ s.length ≤ 100 ∧ ∀ S' s' H', NewSch H H' S' s' (s.map (·.2)) → Q (.ref S') H'
def spIsUsed : Sp := fun vs H Q _ => ∃ (a : Ads) (tab : Tab) (n : Str), vs = [.ref a.d, .str n] ∧ DescAt H a tab ∧ TabSm tab ∧ ∀ H', Same H H' → Q (.bl (usedM tab n)) H'
def spIsReferenced : Sp := fun vs H Q _ => ∃ (S : Addr) (s : Sch) (n : Str), vs = [.ref S, .str n] ∧ H S = some (.dK (schK s)) ∧ (∀ p ∈ s, DescAt H p.1 p.2) ∧ (schN s).Nodup ∧ (∀ p ∈ s, TabSm p.2) ∧ s.length ≤ 20 ∧ ∀ H', Same H H' → Q (.bl (refdM (s.map (·.2)) n)) H'
theorem sch_at {s : Sch} {i : Nat} {k : Key} {v : V} (h : (schK s)[i]? = some (k, v)) : ∃ p, s[i]? = some p ∧ k = Sum.inr p.2.n ∧ v = .ref p.1.d := by
  unfold schK at h
  rw [List.getElem?_map] at h
  cases e : s[i]? with
  | none => rw [e] at h; cases h
  | some p => rw [e] at h; cases h; exact ⟨p, rfl, rfl, rfl⟩
theorem sch_getF {H : Hp} {S : Addr} {s : Sch} {od : Obj} (h : H S = some (.frz od (.dK (schK s)))) (nm : (schN s).Nodup) {p : Ads × Tab} (hp : p ∈ s) : DGet H S (.str p.2.n) (some (.ref p.1.d)) :=
  .inl ⟨schK s, Sum.inr p.2.n, .inr ⟨od, h⟩, rfl, (sch_get nm hp).symm⟩
theorem DescAt.lock {H : Hp} {S : Addr} {a : Ads} {t : Tab} {kvs : List (Key × V)} {o : HO} (h : DescAt H a t) (hS : H S = some (.dK kvs)) (ne : a.d ≠ S) : DescAt (upd H S o) a t :=
  h.frame (KeepT.lock hS) (fun o z => by rw [upd_ne ne]; exact z) fun b hb o z => by
    have : b ≠ S := fun e => by
      obtain ⟨xs, g⟩ := h.isL _ hb
      rw [e, hS] at g; cases g
    rw [upd_ne this]; exact z
/-- a description does not stand where the schema stands -/
theorem desc_ne {H : Hp} {S : Addr} {s : Sch} (hs : H S = some (.dK (schK s))) (hd : ∀ p ∈ s, DescAt H p.1 p.2) : ∀ p ∈ s, p.1.d ≠ S := fun p hp e => by
  have D := hd p hp
  have h1 := D.dk
  rw [e, hs] at h1
  have h2 : schK s = descD p.1 := HO.dK.inj (Option.some.inj h1)
  have h3 : ((Sum.inr ("columns" : Str) : Key), V.ref p.1.c) ∈ schK s := by rw [h2]; simp [descD]
  obtain ⟨q, hq, eq⟩ := List.mem_map.mp h3
  have h4 : q.1.d = p.1.c := V.ref.inj (Prod.mk.inj eq).2
  obtain ⟨xs, g⟩ := D.isL p.1.c (by simp [adL])
  rw [← h4, (hd q hq).dk] at g
  cases g
theorem cond_flat {c : Cond} (h1 : c.length ≤ 20) (h2 : ∀ a ∈ c, a.length ≤ 20) : c.flatten.length ≤ 1000 := by
  have : ∀ (c : Cond), (∀ a ∈ c, a.length ≤ 20) → c.flatten.length ≤ 20 * c.length := by
    intro c
    induction c with
    | nil => intro _; simp
    | cons a r ih =>
      intro h
      have a1 := h a List.mem_cons_self
      have a2 := ih fun x hx => h x (List.mem_cons_of_mem _ hx)
      rw [List.flatten_cons, List.length_append, List.length_cons]
      omega
  have := this c h2
  omega
theorem take_map {α β : Type} (f : α → β) {l : List α} {i : Nat} {x : α} (h : l[i]? = some x) : (l.take (i + 1)).map f = (l.take i).map f ++ [f x] := by
  rw [List.take_add_one, h, List.map_append]; rfl
theorem take_map2 {α β γ : Type} (f : α → β) (g : β → γ) {l : List α} {i : Nat} {x : α} (h : l[i]? = some x) : ((l.take (i + 1)).map f).map g = ((l.take i).map f).map g ++ [g (f x)] := by
  rw [take_map f h, List.map_append]; rfl
theorem D_str_eq (a b : Str) : decide (V.str a = V.str b) = decide (a = b) := by
  by_cases h : a = b
  · rw [decide_eq_true h, decide_eq_true (congrArg V.str h)]
  · rw [decide_eq_false h, decide_eq_false (fun z => h (V.str.inj z))]
theorem DescAt.mono {H H' : Hp} {a : Ads} {t : Tab} (h : DescAt H a t) (e : Same H H') : DescAt H' a t := h.frame (KeepT.of e) (fun o => e _ _) (fun b _ o => e _ _)
mutual
theorem Gp.there {H : Hp} : ∀ {g : G} {v : V} {D : List Addr}, Gp H v g D → ∀ a ∈ D, H a ≠ none
  | .s _, _, _, h, a, ha => by cases h; cases ha
  | .t gs, _, _, h, a, ha => by cases h with | t h n r => exact GpL.there r a ha
  | .l gs, _, _, h, a, ha => by
    cases h with
    | l h n r =>
      rcases List.mem_cons.mp ha with rfl | ha
      · rw [h]; intro z; cases z
      · exact GpL.there r a ha
  | .d ks, _, _, h, a, ha => by
    cases h with
    | d h n nd r f =>
      rcases List.mem_cons.mp ha with rfl | ha
      · rw [h]; intro z; cases z
      · exact GpK.there r a ha
theorem GpL.there {H : Hp} : ∀ {g : List G} {v : List V} {D : List Addr}, GpL H v g D → ∀ a ∈ D, H a ≠ none
  | [], _, _, h, a, ha => by cases h; cases ha
  | g :: gs, _, _, h, a, ha => by
    cases h with
    | cons h r =>
      rcases List.mem_append.mp ha with ha | ha
      · exact Gp.there h a ha
      · exact GpL.there r a ha
theorem GpK.there {H : Hp} : ∀ {g : List (Key × G)} {v : List (Key × V)} {D : List Addr}, GpK H v g D → ∀ a ∈ D, H a ≠ none
  | [], _, _, h, a, ha => by cases h; cases ha
  | (k, g) :: gs, _, _, h, a, ha => by
    cases h with
    | cons h r =>
      rcases List.mem_append.mp ha with ha | ha
      · exact Gp.there h a ha
      · exact GpK.there r a ha
end
theorem NewSch.newD {H H' : Hp} {S : Addr} {s : Sch} {ts : List Tab} (N : NewSch H H' S s ts) : ∀ a ∈ S :: schD s, H a = none := by
  intro a ha
  rcases List.mem_cons.mp ha with rfl | ha
  · exact N.fS
  · obtain ⟨p, hp, hb⟩ := List.mem_flatMap.mp ha
    obtain ⟨h1, _, h2⟩ := N.fd p hp
    rcases List.mem_cons.mp hb with rfl | hb
    · exact h1
    · exact h2 a hb
theorem NewSch.nm {H H' : Hp} {S : Addr} {s s0 : Sch} (N : NewSch H H' S s (s0.map (·.2))) (h : (schN s0).Nodup) : (schN s).Nodup := by
  have : schN s = schN s0 := by
    have e := congrArg (List.map fun t : Tab => t.n) N.ts
    rw [List.map_map, List.map_map] at e
    exact e
  rw [this]; exact h
theorem NewSch.mem {H H' : Hp} {S : Addr} {s s0 : Sch} (N : NewSch H H' S s (s0.map (·.2))) {p : Ads × Tab} (hp : p ∈ s) : ∃ q ∈ s0, q.2 = p.2 := by
  have : p.2 ∈ s0.map (·.2) := by rw [← N.ts]; exact List.mem_map.mpr ⟨p, hp, rfl⟩
  obtain ⟨q, h1, h2⟩ := List.mem_map.mp this
  exact ⟨q, h1, h2⟩
theorem NewSch.g {H H' : Hp} {S : Addr} {s s0 : Sch} (N : NewSch H H' S s (s0.map (·.2))) (nm : (schN s0).Nodup) (k : ∀ p ∈ s0, TabSm p.2) (l : s0.length ≤ 100) : Gp H' (.ref S) (schG s0) (S :: schD s) := by
  have e : schG s = schG s0 := by unfold schG; rw [N.ts]
  rw [← e]
  refine sch_gp N.sk N.ds (N.nm nm) (fun p hp => ?_) ?_ (fun p hp => (N.fd p hp).2.1)
  · obtain ⟨q, h1, h2⟩ := N.mem hp
    rw [← h2]; exact k q h1
  · have := congrArg List.length N.ts
    simp only [List.length_map] at this
    omega
theorem DescAt.isLn {H : Hp} {a : Ads} {t : Tab} (h : DescAt H a t) (k : TabSm t) : ∀ b ∈ adL a, ∃ xs, H b = some (.lst xs) ∧ xs.length ≤ 40 := by
  obtain ⟨h1, ⟨xs, h2, r2⟩, ⟨ys, h3, r3⟩, h4, ⟨zs, h5, r5⟩⟩ := h
  intro b hb
  simp only [adL, List.mem_cons, List.not_mem_nil, or_false] at hb
  rcases hb with rfl | rfl | rfl | rfl
  · exact ⟨_, h2, by rw [r2.length, List.length_map]; exact k.co⟩
  · exact ⟨_, h3, by rw [r3.length, List.length_map]; exact k.ch⟩
  · exact ⟨_, h4, by rw [List.length_map]; exact k.un⟩
  · exact ⟨_, h5, by rw [r5.length, List.length_map]; exact k.rf⟩
theorem desc_part {H : Hp} {a : Ads} (h : H a.d = some (.dK (descD a))) {i : Nat} {x : V} (e : [V.str "columns", V.str "checks", V.str "uniques", V.str "references"][i]? = some x) : ∃ b ∈ adL a, DGet H a.d x (some (.ref b)) := by
  match i, e with
  | 0, e => cases e; exact ⟨a.c, by simp [adL], by have g := DGet.k (k := (Sum.inr ("columns" : Str) : Key)) h; rw [dd_c] at g; exact g⟩
  | 1, e => cases e; exact ⟨a.k, by simp [adL], by have g := DGet.k (k := (Sum.inr ("checks" : Str) : Key)) h; rw [dd_k] at g; exact g⟩
  | 2, e => cases e; exact ⟨a.u, by simp [adL], by have g := DGet.k (k := (Sum.inr ("uniques" : Str) : Key)) h; rw [dd_u] at g; exact g⟩
  | 3, e => cases e; exact ⟨a.r, by simp [adL], by have g := DGet.k (k := (Sum.inr ("references" : Str) : Key)) h; rw [dd_r] at g; exact g⟩
  | n + 4, e => simp at e
theorem sch_getK {H : Hp} {S : Addr} {s : Sch} (h : H S = some (.dK (schK s))) (nm : (schN s).Nodup) {p : Ads × Tab} (hp : p ∈ s) : DGet H S (.str p.2.n) (some (.ref p.1.d)) := by
  have g := DGet.k (k := (Sum.inr p.2.n : Key)) h
  rw [sch_get nm hp] at g
  exact g
end Lt

set_option autoImplicit false
namespace Lt
open PySem PySem.Spec PyProof.Rows L2 TL
/-! ## sorted(d) of a dict of any length, its keys all ints or all texts -/
def txV : Value → Str
  | .str x _ => x
  | _ => ⟨#[]⟩
def ltTx (v u : Value) : Bool := decide (tl (txV v) < tl (txV u))
theorem swo_tx : SrtO.Swo ltTx where
  asym := fun x y h => decide_eq_false (List.lt_asymm (of_decide_eq_true h))
  tr := fun x y z h1 h2 => by
    have a := List.not_lt.mp (of_decide_eq_false h1)
    have b := List.not_lt.mp (of_decide_eq_false h2)
    exact decide_eq_false (List.not_lt.mpr (List.le_trans a b))
theorem tx_mem : ∀ {vs : List Value} {xs : List Str}, StrsAre vs xs → ∀ v ∈ vs, ∃ x t, v = Value.str x t
  | _, _, .nil, v, h => by cases h
  | _, _, .cons x t r, v, h => by
    rcases List.mem_cons.mp h with rfl | h
    · exact ⟨x, t, rfl⟩
    · exact tx_mem r v h
theorem tx_of : ∀ {vs : List Value}, (∀ v ∈ vs, ∃ x t, v = Value.str x t) → StrsAre vs (vs.map txV)
  | [], _ => .nil
  | v :: vs, h => by
    obtain ⟨x, t, rfl⟩ := h v List.mem_cons_self
    exact .cons x t (tx_of fun u hu => h u (List.mem_cons_of_mem _ hu))
theorem tx_back : ∀ {vs : List Value} {xs : List Str}, StrsAre vs xs → vs.map txV = xs
  | _, _, .nil => rfl
  | _, _, .cons x t r => congrArg (x :: ·) (tx_back r)
section
variable {prog : Program} {w : World} {A : Around} {s : Shared}
theorem tx_sortable {a : Addr} {vs : List Value} {xs : List Str} (hT : StrsAre vs xs) (h2 : 2 ≤ vs.length) : SrtO.SortableO prog w A s a vs ltTx := fun hq _ => by
  refine ⟨oneType', fun Q E hq => ?_, fun p q hp hq => ?_⟩
  · cases hT with
    | nil => exact absurd h2 (by decide)
    | cons x t r =>
      cases r with
      | nil => exact absurd h2 (by simp)
      | cons y u r => rw [keyKind_strs (.cons x t (.cons y u r))]; exact wpAny_pure hq
  · obtain ⟨x, t, ex⟩ := tx_mem hT _ hp
    obtain ⟨y, u, ey⟩ := tx_mem hT _ hq
    show wpAny _ _ (keyLt' oneType' p.1 q.1) (fun r s' => s' = _ ∧ r = ltTx p.1 q.1) _ _
    rw [ex, ey, keyLt'_oneType]
    exact oneLt_str ⟨rfl, rfl⟩
end
/-- the order of keys of one kind -/
def kLt : Key → Key → Bool
  | .inl a, .inl b => decide (a < b)
  | .inr a, .inr b => decide (tl a < tl b)
  | .inl _, .inr _ => true
  | .inr _, .inl _ => false
def SortedK (ks : List Key) : Prop := ks.Pairwise fun a b => kLt b a = false
/-- keys all ints or all texts -/
def OneKind (ks : List Key) : Prop := (∃ is : List Int, ks = is.map Sum.inl) ∨ ∃ xs : List Str, ks = xs.map Sum.inr
def rSortK : List V → Hp → VK → Prop := fun xs H Q => ∃ (a : Addr) (kvs : List (Key × V)), xs = [.ref a] ∧ Rd H a (.dK kvs) ∧ OneKind (kvs.map (·.1)) ∧
  ∀ (ys : List Key) (p : Addr), ys.Perm (kvs.map (·.1)) → SortedK ys → H p = none → Q (.ref p) (upd H p (.lst (ys.map kV)))
/-- what the sort's machine hands back of items that all are of one kind -/
theorem one_out {vs out : List Value} {ks : List Key} (hk : (∃ is : List Int, IntsAre vs is ∧ ks = is.map Sum.inl ∧ SrtO.Srtd SrtO.ltIv out ∧ SrtO.Stb SrtO.ltIv out vs) ∨ ∃ xs : List Str, StrsAre vs xs ∧ ks = xs.map Sum.inr ∧ SrtO.Srtd ltTx out ∧ SrtO.Stb ltTx out vs) :
    ∃ ys : List Key, Vals (ys.map kV) out ∧ ys.Perm ks ∧ SortedK ys := by
  rcases hk with ⟨is, hI, rfl, hs, hb⟩ | ⟨xs, hT, rfl, hs, hb⟩
  · obtain ⟨k1, k2, k3⟩ := SrtO.ints_out hI hs hb
    refine ⟨(out.map SrtO.iv).map Sum.inl, ?_, k2.map _, ?_⟩
    · have e : ((out.map SrtO.iv).map Sum.inl).map kV = (out.map SrtO.iv).map V.int := by rw [List.map_map]; rfl
      rw [e]; exact vals_of_ints k1
    · refine List.pairwise_map.mpr (k3.imp fun {x y} h => ?_)
      exact decide_eq_false (by omega)
  · have m : ∀ v ∈ out, ∃ x t, v = Value.str x t := fun v hv => tx_mem hT v (hb.perm.mem_iff.mp hv)
    have k1 := tx_of m
    refine ⟨(out.map txV).map Sum.inr, ?_, ?_, ?_⟩
    · have e : ((out.map txV).map Sum.inr).map kV = (out.map txV).map V.str := by rw [List.map_map]; rfl
      rw [e]; exact vals_of_strs k1
    · have q := hb.perm.map txV
      rw [tx_back hT] at q
      exact q.map _
    · refine List.pairwise_map.mpr (List.pairwise_map.mpr (hs.imp fun {x y} h => ?_))
      exact h
section
variable {X : Cx}
theorem call_sortedK (calm : X.calm = true) : CallR X (.builtin "sorted") rSortK := by
  rintro pins s σ H xs us Q I r ⟨a, kvs, rfl, hd, hone, q⟩
  obtain ⟨u, rfl, rx⟩ := vals1 r
  cases rx
  obtain ⟨z, lo, vs, rel, dd⟩ := dk_rd I.hok hd
  obtain ⟨age, stands⟩ := dd.dictAt
  have hlv : vs.length = kvs.length := rel.length.symm
  have h16 : vs.length ≤ sizeLine := by rw [hlv]; exact z
  refine Calls.call_function_entry kind_sorted plain_sorted entry_sorted (args_sorted1 _) ?_; unfold Builtin.«sorted»
  refine wpAny_bind (m := checkCount "sorted" 1 1 _) (wpAny_pure (wpAny_bind (PySem.W.kdu_collect (A := X.A.in1) (PySem.W.kdl_dict (knd := mixKind X.prog X.w) (kvs := vs) (ep := age) lo) (I.ok.hd calm) stands h16 fun hq tok got hk hgot => ?_)))
  have hal : got.toList.length = vs.length := by rw [Array.length_toList, hgot.1]
  have item : ∀ (j : Nat) (v : Value), got.toList[j]? = some v → ∃ k, (kvs.map (·.1))[j]? = some k ∧ keyIs k v = true := fun j v e => by
    obtain ⟨k, x, e1, e2⟩ := hgot.2 j v (by rw [← Array.getElem?_toList]; exact e)
    refine ⟨k, ?_, e2⟩
    rw [rel.keys, List.getElem?_map, e1]; rfl
  have J : Inv X pins σ H { s with heap := hq, toks := tok } := I.kept hk
  have atNew : (hq.push (seqObj "list" got.toList.toArray 0)).get? hq.objs.size = some (seqObj "list" got.toList.toArray 0) := Heap.get?_push_size _ rfl
  have done : ∀ (out : List Value) (ys : List Key), Vals (ys.map kV) out → ys.Perm (kvs.map (·.1)) → SortedK ys →
      EP X pins σ Q (.ref hq.objs.size) { s with heap := sortedHeap (hq.push (seqObj "list" got.toList.toArray 0)) hq.objs.size got.toList out.toArray, toks := tok } := fun out ys g1 g2 g3 => by
    have hlen : (ys.map kV).length ≤ sizeLine := by
      rw [List.length_map, g2.length_eq, List.length_map, ← hlv]; exact h16
    obtain ⟨e', he'⟩ := PyProof.Rows.sortedHeap_at (vs := got.toList) (out := out.toArray) atNew
    have old : ∀ b u, hq.get? b = some u → (sortedHeap (hq.push (seqObj "list" got.toList.toArray 0)) hq.objs.size got.toList out.toArray).get? b = some u := fun b u e => by
      have hb := Heap.lt_size e
      rw [PyProof.Rows.sortedHeap_old (Nat.ne_of_lt hb) (by rw [size_push']; exact Nat.lt_succ_of_lt hb), Heap.get?_push_of_some _ e]
    exact ⟨.ref hq.objs.size, upd H hq.objs.size (.lst (ys.map kV)), J.laid (t' := tok) old (Nat.le_refl _) ⟨hlen, out, e', g1, he'⟩, rfl, q ys _ g2 g3 (J.hok.fresh (Nat.le_refl _))⟩
  have hz : got.toList.length ≤ sizeLine := by rw [hal]; exact h16
  refine wpAny_bind (wpAny_newList ?_ hz)
  rcases hone with ⟨is, hks⟩ | ⟨ts, hks⟩
  · have hI : IntsAre got.toList is := ints_each (by rw [hal, hlv]; have := congrArg List.length hks; simpa using this) fun j v e => by
      obtain ⟨k, e3, e2⟩ := item j v e
      rw [hks, List.getElem?_map] at e3
      cases e4 : is[j]? with
      | none => rw [e4] at e3; cases e3
      | some y =>
        rw [e4] at e3
        cases e3
        rcases keyIs_shape e2 with ⟨i, t, ek, ev⟩ | ⟨x, t, ek, ev⟩ <;> cases ek
        exact ⟨y, t, rfl, ev⟩
    refine wpAny_bind (wpAny_holding (wpAny_call_entry slot_list_sort ⟨_, atNew, rfl⟩ entry_list_sort
      (SrtO.list_sort_ord (s := { s with heap := hq.push (seqObj "list" got.toList.toArray 0), toks := tok }) SrtO.swo_int atNew hz (fun h2 => SrtO.ints_sortable hI h2) fun out h1 h2 => ⟨_, rfl, ?_⟩) (PyProof.Rows.args_list_sort _)))
    obtain ⟨ys, g1, g2, g3⟩ := one_out (.inl ⟨is, hI, hks, h1, h2⟩)
    exact wpAny_pure ⟨_, rfl, done out ys g1 g2 g3⟩
  · have hT : StrsAre got.toList ts := strs_at (by rw [hal, hlv]; have := congrArg List.length hks; simpa using this) fun j v e => by
      obtain ⟨k, e3, e2⟩ := item j v e
      rw [hks, List.getElem?_map] at e3
      cases e4 : ts[j]? with
      | none => rw [e4] at e3; cases e3
      | some y =>
        rw [e4] at e3
        cases e3
        obtain ⟨t, ev⟩ := Value.isStrOf_shape (x := y) (v := v) e2
        exact ⟨y, t, rfl, ev⟩
    refine wpAny_bind (wpAny_holding (wpAny_call_entry slot_list_sort ⟨_, atNew, rfl⟩ entry_list_sort
      (SrtO.list_sort_ord (s := { s with heap := hq.push (seqObj "list" got.toList.toArray 0), toks := tok }) swo_tx atNew hz (fun h2 => tx_sortable hT h2) fun out h1 h2 => ⟨_, rfl, ?_⟩) (PyProof.Rows.args_list_sort _)))
    obtain ⟨ys, g1, g2, g3⟩ := one_out (.inr ⟨ts, hT, hks, h1, h2⟩)
    exact wpAny_pure ⟨_, rfl, done out ys g1 g2 g3⟩
end
end Lt

set_option autoImplicit false
namespace Lt
open PySem L2 TL
open C8 (pss_cut)
/-! ## the one order of keys -/
def kLe (a b : Key) : Bool := !kLt b a
theorem kLe_total (a b : Key) : (kLe a b || kLe b a) = true := by
  unfold kLe kLt
  rcases a with a | a <;> rcases b with b | b
  · by_cases h : b < a
    · simp [show ¬ a < b by omega]
    · simp [h]
  · rfl
  · rfl
  · by_cases h : tl b < tl a
    · simp [List.lt_asymm h]
    · simp [h]
theorem kLe_trans (a b c : Key) : kLe a b = true → kLe b c = true → kLe a c = true := by
  unfold kLe kLt
  rcases a with a | a <;> rcases b with b | b <;> rcases c with c | c <;> simp
  · omega
  · intro h1 h2
    exact List.le_trans h1 h2
theorem kLe_anti (a b : Key) : kLe a b = true → kLe b a = true → a = b := by
  unfold kLe kLt
  rcases a with a | a <;> rcases b with b | b <;> simp
  · omega
  · intro h1 h2
    exact ext_tl (List.le_antisymm h1 h2)
def sortK (ks : List Key) : List Key := ks.mergeSort kLe
theorem sortK_perm (ks : List Key) : (sortK ks).Perm ks := List.mergeSort_perm ks kLe
theorem sortK_srt (ks : List Key) : SortedK (sortK ks) := (List.pairwise_mergeSort kLe_trans kLe_total ks).imp fun {a b} h => by
  unfold kLe at h
  simpa using h
theorem sortK_eq {ys ks : List Key} (p : ys.Perm ks) (s : SortedK ys) : ys = sortK ks := by
  refine List.Perm.eq_of_pairwise (le := fun a b => kLt b a = false) (fun a b _ _ h1 h2 => kLe_anti a b ?_ ?_) s (sortK_srt ks) (p.trans (sortK_perm ks).symm)
  · unfold kLe; rw [h1]; rfl
  · unfold kLe; rw [h2]; rfl
theorem sortK_len (ks : List Key) : (sortK ks).length = ks.length := (sortK_perm ks).length_eq
theorem sortK_mem {ks : List Key} {k : Key} : k ∈ sortK ks ↔ k ∈ ks := (sortK_perm ks).mem_iff
theorem sortK_nd {ks : List Key} (h : ks.Nodup) : (sortK ks).Nodup := (sortK_perm ks).nodup_iff.mpr h
/-! ## states -/
structure Ro where
  k : Key
  a : Addr
  vs : List V
def roK (rs : List Ro) : List (Key × V) := rs.map fun r => (r.k, V.ref r.a)
def roN (rs : List Ro) : List Key := rs.map fun r => r.k
theorem roK_keys (rs : List Ro) : (roK rs).map (·.1) = roN rs := by unfold roK roN; rw [List.map_map]; rfl
/-- the rows rs stand in the dict at d -/
structure TAt (H : Hp) (d : Addr) (rs : List Ro) : Prop where
  dk : H d = some (.dK (roK rs))
  rt : ∀ r ∈ rs, H r.a = some (.tup r.vs)
  nd : (roN rs).Nodup
theorem TAt.mono {H H' : Hp} {d : Addr} {rs : List Ro} (h : TAt H d rs) (kt : KeepT H H') (e : ∀ o, H d = some o → H' d = some o) : TAt H' d rs := ⟨e _ h.dk, fun r hr => kt _ _ (h.rt r hr), h.nd⟩
theorem ro_one {rs : List Ro} (nd : (roN rs).Nodup) {r q : Ro} (hr : r ∈ rs) (hq : q ∈ rs) (e : r.k = q.k) : r = q := by
  obtain ⟨i, hi, ei⟩ := List.getElem_of_mem hr
  obtain ⟨j, hj, ej⟩ := List.getElem_of_mem hq
  have a1 : (roN rs)[i]? = some r.k := by unfold roN; rw [List.getElem?_map, List.getElem?_eq_getElem hi, ei]; rfl
  have a2 : (roN rs)[j]? = some r.k := by unfold roN; rw [List.getElem?_map, List.getElem?_eq_getElem hj, ej]; exact congrArg some e.symm
  have := nd_ix nd a1 a2
  subst this
  rw [← ei, ← ej]
theorem ro_get {rs : List Ro} (nd : (roN rs).Nodup) {r : Ro} (hr : r ∈ rs) : valV (roK rs) r.k = some (.ref r.a) := by
  obtain ⟨i, hi, e⟩ := List.getElem_of_mem hr
  refine valV_at (i := i) (by rw [roK_keys]; exact nd) ?_
  unfold roK
  rw [List.getElem?_map, List.getElem?_eq_getElem hi, e]
  rfl
theorem ro_none {rs : List Ro} {k : Key} (h : k ∉ roN rs) : valV (roK rs) k = none := by
  cases e : valV (roK rs) k with
  | none => rfl
  | some v =>
    have := valV_in e
    rw [roK_keys] at this
    exact absurd this h
theorem ro_mem {rs : List Ro} {k : Key} (h : k ∈ roN rs) : ∃ r ∈ rs, r.k = k := by
  obtain ⟨r, h1, h2⟩ := List.mem_map.mp h
  exact ⟨r, h1, h2⟩
theorem TAt.get {H : Hp} {d : Addr} {rs : List Ro} (h : TAt H d rs) {r : Ro} (hr : r ∈ rs) : DGet H d (kV r.k) (some (.ref r.a)) := by
  have g := DGet.k (k := r.k) h.dk
  rw [ro_get h.nd hr] at g
  exact g
/-- rs with the row r put in -/
def putRo (rs : List Ro) (r : Ro) : List Ro := if (rs.any fun q => decide (q.k = r.k)) = true then rs.map (fun q => if q.k = r.k then ⟨q.k, r.a, r.vs⟩ else q) else rs ++ [r]
theorem putRo_K (rs : List Ro) (r : Ro) : putK (roK rs) r.k (.ref r.a) = roK (putRo rs r) := by
  unfold putK putRo roK
  rw [List.any_map]
  have e : ((fun kv : Key × V => decide (kv.1 = r.k)) ∘ fun r => (r.k, V.ref r.a)) = fun q : Ro => decide (q.k = r.k) := rfl
  rw [e]
  split
  · rw [List.map_map, List.map_map]
    refine List.map_congr_left fun q _ => ?_
    show (if q.k = r.k then (q.k, V.ref r.a) else (q.k, V.ref q.a)) = _
    show _ = ((if q.k = r.k then (⟨q.k, r.a, r.vs⟩ : Ro) else q).k, V.ref (if q.k = r.k then (⟨q.k, r.a, r.vs⟩ : Ro) else q).a)
    split <;> rfl
  · rw [List.map_append]; rfl
theorem putRo_N (rs : List Ro) (r : Ro) : (roN (putRo rs r) = roN rs ∧ r.k ∈ roN rs) ∨ (roN (putRo rs r) = roN rs ++ [r.k] ∧ r.k ∉ roN rs) := by
  unfold putRo roN
  by_cases h : (rs.any fun q => decide (q.k = r.k)) = true
  · have h2 : r.k ∈ rs.map fun r => r.k := by
      obtain ⟨q, h1, h2⟩ := List.any_eq_true.mp h
      exact List.mem_map.mpr ⟨q, h1, of_decide_eq_true h2⟩
    rw [if_pos h]
    refine .inl ⟨?_, h2⟩
    rw [List.map_map]
    refine List.map_congr_left fun q _ => ?_
    show (if q.k = r.k then (⟨q.k, r.a, r.vs⟩ : Ro) else q).k = q.k
    split <;> rfl
  · have h2 : ¬ r.k ∈ rs.map fun r => r.k := fun z => by
      obtain ⟨q, h1, h2⟩ := List.mem_map.mp z
      exact h (List.any_eq_true.mpr ⟨q, h1, decide_eq_true h2⟩)
    rw [if_neg h]
    exact .inr ⟨by rw [List.map_append]; rfl, h2⟩
theorem putRo_nd {rs : List Ro} (nd : (roN rs).Nodup) (r : Ro) : (roN (putRo rs r)).Nodup := by
  rcases putRo_N rs r with ⟨e, _⟩ | ⟨e, h⟩ <;> rw [e]
  · exact nd
  · refine List.nodup_append.mpr ⟨nd, by simp, fun x hx y hy => ?_⟩
    have : y = r.k := by simpa using hy
    subst this
    rintro rfl
    exact h hx
theorem putRo_len (rs : List Ro) (r : Ro) : (putRo rs r).length ≤ rs.length + 1 := by
  unfold putRo
  split
  · rw [List.length_map]; omega
  · rw [List.length_append]; simp
/-- a row put in is the one, or one of before -/
theorem putRo_mem {rs : List Ro} {r q : Ro} (h : q ∈ putRo rs r) : (q.k = r.k ∧ q.a = r.a ∧ q.vs = r.vs) ∨ q ∈ rs := by
  unfold putRo at h
  split at h
  · obtain ⟨x, h1, h2⟩ := List.mem_map.mp h
    split at h2
    · rename_i e
      rw [← h2]
      exact .inl ⟨e, rfl, rfl⟩
    · rw [← h2]; exact .inr h1
  · rcases List.mem_append.mp h with h | h
    · exact .inr h
    · rw [List.mem_singleton.mp h]; exact .inl ⟨rfl, rfl, rfl⟩
/-- the rows of a table fit its columns -/
structure RowFit (cols : List Col) (r : Ro) : Prop where
  k : ∀ c, cols[0]? = some c → ValOf c.k false (kV r.k)
  r : RestOf cols r.vs
theorem one_kind {cols : List Col} {rs : List Ro} {c : Col} (hc : cols[0]? = some c) (h : ∀ r ∈ rs, RowFit cols r) : OneKind (roN rs) := by
  by_cases e : c.k = ("int" : Str)
  · refine .inl ⟨(roN rs).map (fun k => match k with | .inl i => i | .inr _ => 0), ?_⟩
    rw [List.map_map]
    refine (List.map_congr_left (g := id) fun k hk => ?_).trans (List.map_id _) |>.symm
    obtain ⟨r, hr, rfl⟩ := ro_mem hk
    have v := (h r hr).k c hc
    cases hk2 : r.k with
    | inl i => rfl
    | inr x =>
      rw [hk2] at v
      rcases v with ⟨z, _⟩ | ⟨_, i, z, _⟩ | ⟨z, _⟩
      · cases z
      · cases z
      · exact absurd e z
  · refine .inr ⟨(roN rs).map (fun k => match k with | .inl i => "" | .inr x => x), ?_⟩
    rw [List.map_map]
    refine (List.map_congr_left (g := id) fun k hk => ?_).trans (List.map_id _) |>.symm
    obtain ⟨r, hr, rfl⟩ := ro_mem hk
    have v := (h r hr).k c hc
    cases hk2 : r.k with
    | inr x => rfl
    | inl i =>
      rw [hk2] at v
      rcases v with ⟨z, _⟩ | ⟨z, _⟩ | ⟨_, y, z, _⟩
      · cases z
      · exact absurd z e
      · cases z
/-! ### rows as tuples -/
def restAt (rs : List Ro) (k : Key) : List V := match rs.find? (fun r => decide (r.k = k)) with | some r => r.vs | none => []
def rowsM (rs : List Ro) : List (List V) := (sortK (roN rs)).map fun k => kV k :: restAt rs k
theorem restAt_eq {rs : List Ro} (nd : (roN rs).Nodup) {r : Ro} (hr : r ∈ rs) : restAt rs r.k = r.vs := by
  unfold restAt
  cases e : rs.find? (fun q => decide (q.k = r.k)) with
  | none =>
    have := List.find?_eq_none.mp e r hr
    simp at this
  | some q =>
    have h1 := List.mem_of_find?_eq_some e
    have h2 : q.k = r.k := by simpa using List.find?_some e
    rw [ro_one nd h1 hr h2]
theorem rowsM_len (rs : List Ro) : (rowsM rs).length = rs.length := by unfold rowsM; rw [List.length_map, sortK_len]; unfold roN; rw [List.length_map]
theorem rowsM_mem {rs : List Ro} (nd : (roN rs).Nodup) {x : List V} (h : x ∈ rowsM rs) : ∃ r ∈ rs, x = kV r.k :: r.vs := by
  obtain ⟨k, hk, rfl⟩ := List.mem_map.mp h
  obtain ⟨r, hr, rfl⟩ := ro_mem (sortK_mem.mp hk)
  exact ⟨r, hr, by rw [restAt_eq nd hr]⟩
/-- a list of tuples stands at L -/
def RowsAt (H : Hp) (L : Addr) (rws : List (List V)) : Prop := ∃ as : List Addr, H L = some (.lst (as.map V.ref)) ∧ as.length = rws.length ∧ ∀ (i : Nat) (a : Addr) (r : List V), as[i]? = some a → rws[i]? = some r → H a = some (.tup r)
theorem RowsAt.mono {H H' : Hp} {L : Addr} {rws : List (List V)} (h : RowsAt H L rws) (kt : KeepT H H') (e : ∀ o, H L = some o → H' L = some o) : RowsAt H' L rws := by
  obtain ⟨as, h1, h2, h3⟩ := h
  exact ⟨as, e _ h1, h2, fun i a r ha hr => kt _ _ (h3 i a r ha hr)⟩
theorem RowsAt.same {H H' : Hp} {L : Addr} {rws : List (List V)} (h : RowsAt H L rws) (e : Same H H') : RowsAt H' L rws := h.mono (KeepT.of e) fun o => e _ _
theorem RowsAt.get {H : Hp} {L : Addr} {rws : List (List V)} (h : RowsAt H L rws) : ∃ xs, H L = some (.lst xs) ∧ xs.length = rws.length ∧ ∀ (i : Nat) (x : V), xs[i]? = some x → ∃ (a : Addr) (r : List V), x = .ref a ∧ rws[i]? = some r ∧ H a = some (.tup r) := by
  obtain ⟨as, h1, h2, h3⟩ := h
  refine ⟨_, h1, by rw [List.length_map]; exact h2, fun i x hx => ?_⟩
  rw [List.getElem?_map] at hx
  cases e : as[i]? with
  | none => rw [e] at hx; cases hx
  | some a =>
    rw [e] at hx
    cases hx
    have hi := (List.getElem?_eq_some_iff.mp e).1
    have er : rws[i]? = some rws[i] := List.getElem?_eq_getElem (by omega)
    exact ⟨a, rws[i], rfl, er, h3 i a _ e er⟩
/-- the state of a table, by its name -/
structure TS where
  n : Str
  d : Addr
  rs : List Ro
def stK (st : List TS) : List (Key × V) := st.map fun p => ((Sum.inr p.n : Key), V.ref p.d)
def stN (st : List TS) : List Str := st.map fun p => p.n
theorem st_keys (st : List TS) : (stK st).map (·.1) = (stN st).map Sum.inr := by unfold stK stN; rw [List.map_map, List.map_map]; rfl
structure StAt (H : Hp) (T : Addr) (st : List TS) : Prop where
  sk : H T = some (.dK (stK st))
  ds : ∀ p ∈ st, TAt H p.d p.rs
  nm : (stN st).Nodup
theorem StAt.mono {H H' : Hp} {T : Addr} {st : List TS} (h : StAt H T st) (e : Same H H') : StAt H' T st := ⟨e _ _ h.sk, fun p hp => (h.ds p hp).mono (KeepT.of e) fun o => e _ _, h.nm⟩
theorem st_nd {st : List TS} (h : (stN st).Nodup) : ((stK st).map (·.1)).Nodup := by
  rw [st_keys]
  exact List.Pairwise.map _ (fun a b e z => e (Sum.inr.inj z)) h
theorem st_get {st : List TS} (h : (stN st).Nodup) {p : TS} (hp : p ∈ st) : valV (stK st) (Sum.inr p.n : Key) = some (.ref p.d) := by
  obtain ⟨i, hi, e⟩ := List.getElem_of_mem hp
  refine valV_at (i := i) (st_nd h) ?_
  unfold stK
  rw [List.getElem?_map, List.getElem?_eq_getElem hi, e]
  rfl
theorem StAt.get {H : Hp} {T : Addr} {st : List TS} (h : StAt H T st) {p : TS} (hp : p ∈ st) : DGet H T (.str p.n) (some (.ref p.d)) := by
  have g := DGet.k (k := (Sum.inr p.n : Key)) h.sk
  rw [st_get h.nm hp] at g
  exact g
theorem st_in {st : List TS} {n : Str} (h : n ∈ stN st) : ∃ p ∈ st, p.n = n := by
  obtain ⟨p, h1, h2⟩ := List.mem_map.mp h
  exact ⟨p, h1, h2⟩
theorem st_one {st : List TS} (h : (stN st).Nodup) {p q : TS} (hp : p ∈ st) (hq : q ∈ st) (e : p.n = q.n) : p = q := by
  obtain ⟨i, hi, ei⟩ := List.getElem_of_mem hp
  obtain ⟨j, hj, ej⟩ := List.getElem_of_mem hq
  have a1 : (stN st)[i]? = some p.n := by unfold stN; rw [List.getElem?_map, List.getElem?_eq_getElem hi, ei]; rfl
  have a2 : (stN st)[j]? = some p.n := by unfold stN; rw [List.getElem?_map, List.getElem?_eq_getElem hj, ej]; exact congrArg some e.symm
  have := nd_ix h a1 a2
  subst this
  rw [← ei, ← ej]
/-! ### a state as data -/
def rowG (vs : List V) : G := .t (vs.map G.s)
def tabStG (rs : List Ro) : G := .d (rs.map fun r => (r.k, rowG r.vs))
def stG (st : List TS) : G := .d (st.map fun p => ((Sum.inr p.n : Key), tabStG p.rs))
theorem scals_L {H : Hp} : ∀ {xs : List V}, (∀ v ∈ xs, isScal v = true) → GpL H xs (xs.map G.s) []
  | [], _ => .nil
  | x :: r, h => GpL.cons (D := []) (E := []) (.s (h x List.mem_cons_self)) (scals_L fun v hv => h v (List.mem_cons_of_mem _ hv))
theorem rows_gp {H : Hp} : ∀ {rs : List Ro}, (∀ r ∈ rs, H r.a = some (.tup r.vs)) → (∀ r ∈ rs, r.vs.length ≤ 100 ∧ ∀ v ∈ r.vs, isScal v = true) → GpK H (roK rs) (rs.map fun r => (r.k, rowG r.vs)) []
  | [], _, _ => .nil
  | r :: rs, h, k => by
    have := rows_gp (fun q hq => h q (List.mem_cons_of_mem _ hq)) (fun q hq => k q (List.mem_cons_of_mem _ hq))
    have k1 := k r List.mem_cons_self
    exact GpK.cons (D := []) (E := []) (.t (h r List.mem_cons_self) (by omega) (scals_L k1.2)) this
theorem RestOf.scal {cols : List Col} {vs : List V} (h : RestOf cols vs) : ∀ v ∈ vs, isScal v = true := fun v hv => by
  obtain ⟨i, hi, e⟩ := List.getElem_of_mem hv
  have := h.1
  exact (h.2 i cols[i + 1] v (List.getElem?_eq_getElem (by omega)) (by rw [List.getElem?_eq_getElem hi, e])).scal
/-- the rows of a table: few, and each fits -/
structure TabFit (cols : List Col) (rs : List Ro) : Prop where
  l : rs.length ≤ 200
  f : ∀ r ∈ rs, RowFit cols r
theorem tabst_gp {H : Hp} {d : Addr} {rs : List Ro} {cols : List Col} (h : TAt H d rs) (f : TabFit cols rs) (hc : cols.length ≤ 50) : Gp H (.ref d) (tabStG rs) [d] := by
  have := f.l
  refine .d h.dk (by unfold roK; rw [List.length_map]; omega) (by rw [roK_keys]; exact h.nd) (rows_gp h.rt fun r hr => ?_) (by intro z; cases z)
  have k := (f.f r hr).r
  have := k.1
  exact ⟨by omega, k.scal⟩
theorem tabst_dep (rs : List Ro) : (tabStG rs).dep ≤ 2 := by
  have : depK (rs.map fun r => (r.k, rowG r.vs)) ≤ 1 := depK_le fun p hp => by
    obtain ⟨r, _, rfl⟩ := List.mem_map.mp hp
    have : depL (r.vs.map G.s) ≤ 0 := depL_le fun g hg => by
      obtain ⟨v, _, rfl⟩ := List.mem_map.mp hg
      exact Nat.le_refl 0
    simp only [rowG, G.dep]; omega
  simp only [tabStG, G.dep]; omega
theorem st_dep (st : List TS) : (stG st).dep ≤ 3 := by
  have : depK (st.map fun p => ((Sum.inr p.n : Key), tabStG p.rs)) ≤ 2 := depK_le fun p hp => by
    obtain ⟨t, _, rfl⟩ := List.mem_map.mp hp
    exact tabst_dep _
  simp only [stG, G.dep]; omega
theorem sts_gp {H : Hp} : ∀ {st : List TS}, (∀ p ∈ st, TAt H p.d p.rs) → (∀ p ∈ st, ∃ cols : List Col, cols.length ≤ 50 ∧ TabFit cols p.rs) → GpK H (stK st) (st.map fun p => ((Sum.inr p.n : Key), tabStG p.rs)) (st.map fun p => p.d)
  | [], _, _ => .nil
  | p :: r, h, k => by
    have q := sts_gp (fun q hq => h q (List.mem_cons_of_mem _ hq)) (fun q hq => k q (List.mem_cons_of_mem _ hq))
    obtain ⟨cols, h1, h2⟩ := k p List.mem_cons_self
    exact GpK.cons (D := [p.d]) (tabst_gp (h p List.mem_cons_self) h2 h1) q
theorem StAt.g {H : Hp} {T : Addr} {st : List TS} (A : StAt H T st) (k : ∀ p ∈ st, ∃ cols : List Col, cols.length ≤ 50 ∧ TabFit cols p.rs) (l : st.length ≤ 100) (ne : ∀ p ∈ st, p.d ≠ T) : Gp H (.ref T) (stG st) (T :: st.map fun p => p.d) := by
  refine .d A.sk (by unfold stK; rw [List.length_map]; omega) (st_nd A.nm) (sts_gp A.ds k) fun hm => ?_
  obtain ⟨p, hp, e⟩ := List.mem_map.mp hm
  exact ne p hp e
end Lt

set_option autoImplicit false
namespace Lt
open PySem L2 TL
open C8 (pss_cut)
theorem alike_scal {v w : V} (h : Alike v w) : scal v w = true := by rcases h with ⟨a, b, rfl, rfl⟩ | ⟨a, b, rfl, rfl⟩ <;> rfl
def spCompares : Sp := fun vs H Q _ => ∃ v op w, vs = [v, .str op, w] ∧ Alike v w ∧ Q (.bl (cmpM v op w)) H
def spClauseH (K : PySem.W.Frag) : Sp := fun vs H Q _ => ∃ (a n r : Addr) (cl : Cl) (names : List Str) (row : List V), vs = [.ref a, .ref n, .ref r] ∧ SqT K H a [.str cl.n, .str cl.op, cl.v] ∧ SqL K H n (names.map V.str) ∧ SqT K H r row ∧ row.length = names.length ∧
  isScal (at_ names row cl.n) = true ∧ ClFit names row cl ∧ Q (.bl (clauseM names row cl)) H
structure Ask (H : Hp) (c n r : Addr) (cond : Cond) (names : List Str) (row : List V) : Prop where
  cn : Tp H (.ref c) (condD cond)
  nm : H n = some (.lst (names.map V.str))
  rw : H r = some (.tup row)
  ln : row.length = names.length
  sc : ∀ v ∈ row, isScal v = true
  ft : ∀ a ∈ cond, ∀ cl ∈ a, ClFit names row cl
  sm : ∀ a ∈ cond, a.length ≤ 100
def spHolds : Sp := fun vs H Q _ => ∃ (c n r : Addr) (cond : Cond) (names : List Str) (row : List V), vs = [.ref c, .ref n, .ref r] ∧ Ask H c n r cond names row ∧ ∀ H', Same H H' → Q (.bl (holdsM names row cond)) H'
theorem Ask.mono {H H' : Hp} {c n r : Addr} {cond : Cond} {names : List Str} {row : List V} (A : Ask H c n r cond names row) (s : Same H H') : Ask H' c n r cond names row :=
  ⟨A.cn.mono (KeepT.of s), s _ _ A.nm, s _ _ A.rw, A.ln, A.sc, A.ft, A.sm⟩
theorem at_scal {names : List Str} {row : List V} {n : Str} (h : ∀ v ∈ row, isScal v = true) : isScal (at_ names row n) = true := by
  unfold at_
  rw [List.getD_eq_getElem?_getD]
  cases e : row[names.idxOf n]? with
  | none => rfl
  | some v => exact h v (List.mem_of_getElem? e)
theorem all_take {α : Type} {f : α → Bool} {xs : List α} {i : Nat} {x : α} (e : xs[i]? = some x) : (xs.take (i + 1)).all f = ((xs.take i).all f && f x) := by
  rw [List.take_add_one, e, List.all_append]; simp
theorem any_take {α : Type} {f : α → Bool} {xs : List α} {i : Nat} {x : α} (e : xs[i]? = some x) : (xs.take (i + 1)).any f = ((xs.take i).any f || f x) := by
  rw [List.take_add_one, e, List.any_append]; simp
def spNear : Sp := fun vs H Q _ => ∃ (t tc : Addr) (cs : List Int) (c n r : Addr) (cond : Cond) (names : List Str) (row : List V), vs = [.ref t, .ref c, .ref n, .ref r] ∧ TapeAt H t tc cs ∧ Ask H c n r cond names row ∧ cond.length ≤ 100 ∧
  ∀ p cond' H', Tp H' (.ref p) (condD cond') → (∀ a ∈ cond', ∀ cl ∈ a, ClFit names row cl) → (∀ a ∈ cond', a.length ≤ 100) → TapeAt H' t tc cs → SameX t H H' → Q (.ref p) H'

/-! ## faults -/
def headV (r : List V) : V := r.headD .non
def badC (tab : Tab) (r : List V) : Bool := !(tab.ch.all (holdsM (colNs tab.cols) r))
def clash (ns : List Str) (x y : List V) (n : Str) : Bool := !decide (at_ ns y n = .non) && decide (at_ ns x n = at_ ns y n)
def badU (tab : Tab) (earlier : List (List V)) (r : List V) : Bool := tab.un.any fun n => earlier.any fun x => clash (colNs tab.cols) x r n
def badR (ks : Str → List Key) (tab : Tab) (r : List V) : Bool := tab.rf.any fun p => !decide (at_ (colNs tab.cols) r p.1 = .non) && !((ks p.2).any fun k => decide (kV k = at_ (colNs tab.cols) r p.1))
def keysF (rws : List (List V)) : List V := (rws.drop 60).map headV
def keysC (tab : Tab) (rws : List (List V)) : List V := (rws.filter (badC tab)).map headV
def keysU (tab : Tab) (rws : List (List V)) : List V := ((List.range rws.length).filter fun k => badU tab (rws.take k) (rws.getD k [])).map fun k => headV (rws.getD k [])
def keysR (ks : Str → List Key) (tab : Tab) (rws : List (List V)) : List V := (rws.filter (badR ks tab)).map headV
def faultT (ks : Str → List Key) (tab : Tab) (rws : List (List V)) : Option (Str × V) :=
  match keysF rws with
  | k :: _ => some ("full", k)
  | [] => match keysC tab rws with
    | k :: _ => some ("check", k)
    | [] => match keysU tab rws with
      | k :: _ => some ("unique", k)
      | [] => match keysR ks tab rws with
        | k :: _ => some ("reference", k)
        | [] => none
/-- rows that fit the columns -/
structure RowsFit (cols : List Col) (rws : List (List V)) : Prop where
  l : rws.length ≤ 200
  n : ∀ r ∈ rws, r.length = cols.length
  v : ∀ r ∈ rws, ∀ (i : Nat) (col : Col) (v : V), cols[i]? = some col → r[i]? = some v → ValOf col.k col.b v
theorem RowsFit.scal {cols : List Col} {rws : List (List V)} (h : RowsFit cols rws) {r : List V} (hr : r ∈ rws) : ∀ v ∈ r, isScal v = true := fun v hv => by
  obtain ⟨i, hi, e⟩ := List.getElem_of_mem hv
  have := h.n r hr
  exact (h.v r hr i cols[i] v (List.getElem?_eq_getElem (by omega)) (by rw [List.getElem?_eq_getElem hi, e])).scal
theorem rowsM_fit {cols : List Col} {rs : List Ro} (nd : (roN rs).Nodup) (f : TabFit cols rs) (hd : ∀ c, cols[0]? = some c → c.b = false) : RowsFit cols (rowsM rs) := by
  refine ⟨by rw [rowsM_len]; exact f.l, fun x hx => ?_, fun x hx i col v hc hv => ?_⟩
  · obtain ⟨r, hr, rfl⟩ := rowsM_mem nd hx
    have := (f.f r hr).r.1
    rw [List.length_cons]; omega
  · obtain ⟨r, hr, rfl⟩ := rowsM_mem nd hx
    match i, hc, hv with
    | 0, hc, hv =>
      have hv' : kV r.k = v := by simpa using hv
      rw [← hv', hd col hc]
      exact (f.f r hr).k col hc
    | i + 1, hc, hv => exact (f.f r hr).r.2 i col v hc (by simpa using hv)
theorem RowsFit.ne {cols : List Col} {rws : List (List V)} (h : RowsFit cols rws) (l0 : 1 ≤ cols.length) {r : List V} (hr : r ∈ rws) : ∃ v vs, r = v :: vs := by
  cases r with
  | nil => have := h.n _ hr; simp at this; omega
  | cons v vs => exact ⟨v, vs, rfl⟩
def spRows : Sp := fun vs H Q _ => ∃ (T : Addr) (n : Str) (d : Addr) (rs : List Ro), vs = [.ref T, .str n] ∧ DGet H T (.str n) (some (.ref d)) ∧ TAt H d rs ∧ OneKind (roN rs) ∧ (∀ r ∈ rs, r.vs.length ≤ 50) ∧ rs.length ≤ 200 ∧ ∀ L H', RowsAt H' L (rowsM rs) → Same H H' → H L = none → Q (.ref L) H'
def spSortedRows : Sp := fun vs H Q _ => ∃ (d : Addr) (rs : List Ro), vs = [.ref d] ∧ TAt H d rs ∧ OneKind (roN rs) ∧ (∀ r ∈ rs, r.vs.length ≤ 50) ∧ rs.length ≤ 200 ∧ ∀ L H', RowsAt H' L (rowsM rs) → Same H H' → H L = none → Q (.ref L) H'
end Lt

set_option autoImplicit false
namespace Lt
open PySem L2 TL
open C8 (pss_cut)
section
variable {α : Type} [DecidableEq α]
theorem valV_isSome : ∀ {kvs : List (α × V)} {k : α}, (valV kvs k).isSome = true ↔ k ∈ kvs.map (·.1)
  | [], k => by simp [valV]
  | (k0, v0) :: r, k => by
    rw [List.map_cons, List.mem_cons]
    by_cases h : k0 = k
    · rw [valV_pos h]; simp [h]
    · rw [valV_neg h, valV_isSome]
      exact ⟨.inr, fun z => z.resolve_left fun e => h e.symm⟩
theorem putK_mem {kvs : List (α × V)} {k k' : α} {v : V} : k' ∈ (putK kvs k v).map (·.1) ↔ k' = k ∨ k' ∈ kvs.map (·.1) := by
  unfold putK
  split
  · rename_i h
    obtain ⟨p, h1, h2⟩ := List.any_eq_true.mp h
    have hk : k ∈ kvs.map (·.1) := List.mem_map.mpr ⟨p, h1, of_decide_eq_true h2⟩
    have e : (kvs.map fun kv => if kv.1 = k then (kv.1, v) else kv).map (·.1) = kvs.map (·.1) := by
      rw [List.map_map]
      refine List.map_congr_left fun q _ => ?_
      show (if q.1 = k then (q.1, v) else q).1 = q.1
      split <;> rfl
    rw [e]
    exact ⟨.inr, fun z => z.elim (fun e => e ▸ hk) id⟩
  · rw [List.map_append, List.mem_append]
    simp only [List.map_cons, List.map_nil, List.mem_singleton]
    exact ⟨fun z => z.elim .inr .inl, fun z => z.elim .inr .inl⟩
end
def vKey : V → Key
  | .int i => .inl i
  | .str x => .inr x
  | _ => .inl 0
theorem kV_vKey {k : Str} {b : Bool} {v : V} (h : ValOf k b v) (n : v ≠ .non) : kV (vKey v) = v := by
  rcases h with ⟨_, rfl⟩ | ⟨_, i, rfl, _⟩ | ⟨_, z, rfl, _⟩
  · exact absurd rfl n
  · rfl
  · rfl
/-- what the uniques say of a row: its pairs of place and value -/
def givenM (tab : Tab) (r : List V) : List (List Key) := (tab.un.filter fun n => !decide (at_ (colNs tab.cols) r n = .non)).map fun n => [Sum.inl (((colNs tab.cols).idxOf n : Nat) : Int), vKey (at_ (colNs tab.cols) r n)]
theorem given_mem {tab : Tab} {r : List V} {M : List Key} : M ∈ givenM tab r ↔ ∃ n ∈ tab.un, at_ (colNs tab.cols) r n ≠ .non ∧ M = [Sum.inl (((colNs tab.cols).idxOf n : Nat) : Int), vKey (at_ (colNs tab.cols) r n)] := by
  unfold givenM
  rw [List.mem_map]
  constructor
  · rintro ⟨n, h1, rfl⟩
    obtain ⟨h2, h3⟩ := List.mem_filter.mp h1
    exact ⟨n, h2, by simpa using h3, rfl⟩
  · rintro ⟨n, h1, h2, rfl⟩
    exact ⟨n, List.mem_filter.mpr ⟨h1, by simpa using h2⟩, rfl⟩
theorem at_val {cols : List Col} {rws : List (List V)} (F : RowsFit cols rws) {r : List V} (hr : r ∈ rws) {n : Str} (hn : n ∈ colNs cols) : ∃ k b, ValOf k b (at_ (colNs cols) r n) := by
  obtain ⟨j, e1, e2, _, _⟩ := idx_str hn
  have hj : j < cols.length := by unfold colNs at e2; rwa [List.length_map] at e2
  have hl := F.n r hr
  have er : r[j]? = some r[j] := List.getElem?_eq_getElem (by omega)
  have ea : at_ (colNs cols) r n = r[j] := by unfold at_; rw [← e1]; exact getD_some er
  rw [ea]
  exact ⟨_, _, F.v r hr j cols[j] _ (List.getElem?_eq_getElem hj) er⟩
theorem idx_inj {ns : List Str} {n m : Str} (hn : n ∈ ns) (hm : m ∈ ns) (e : ns.idxOf n = ns.idxOf m) : n = m := by
  obtain ⟨j, e1, e2, e3, _⟩ := idx_str hn
  obtain ⟨k, f1, f2, f3, _⟩ := idx_str hm
  have : j = k := by omega
  subst this
  rw [e3] at f3
  exact Option.some.inj f3
/-- a pair that an earlier row has -/
theorem badU_iff {fr : List (Str × List Col)} {tab : Tab} (ok : TabOk fr tab) {rws : List (List V)} (F : RowsFit tab.cols rws) {i : Nat} {r : List V} (hr : rws[i]? = some r) :
    ((∃ M ∈ givenM tab r, ∃ x ∈ rws.take i, M ∈ givenM tab x) ↔ badU tab (rws.take i) r = true) := by
  have hm := List.mem_of_getElem? hr
  have un : ∀ n ∈ tab.un, n ∈ colNs tab.cols := fun n hn => by
    have := ok.uc n hn
    unfold colNs at this ⊢
    rw [List.map_drop] at this
    exact List.mem_of_mem_drop this
  constructor
  · rintro ⟨M, h1, x, hx, h2⟩
    obtain ⟨n, n1, n2, rfl⟩ := given_mem.mp h1
    obtain ⟨m, m1, m2, e⟩ := given_mem.mp h2
    have hxm := List.mem_of_mem_take hx
    have e1 : (((colNs tab.cols).idxOf n : Nat) : Int) = (((colNs tab.cols).idxOf m : Nat) : Int) := Sum.inl.inj (List.cons.inj e).1
    have e2 : vKey (at_ (colNs tab.cols) r n) = vKey (at_ (colNs tab.cols) x m) := (List.cons.inj (List.cons.inj e).2).1
    have enm : n = m := idx_inj (un n n1) (un m m1) (by omega)
    subst enm
    obtain ⟨_, _, v1⟩ := at_val F hm (un n n1)
    obtain ⟨_, _, v2⟩ := at_val F hxm (un n n1)
    unfold badU
    refine List.any_eq_true.mpr ⟨n, n1, List.any_eq_true.mpr ⟨x, hx, ?_⟩⟩
    unfold clash
    rw [decide_eq_false n2, decide_eq_true (show at_ (colNs tab.cols) x n = at_ (colNs tab.cols) r n by rw [← kV_vKey v2 m2, ← e2, kV_vKey v1 n2])]
    rfl
  · intro h
    unfold badU at h
    obtain ⟨n, n1, h⟩ := List.any_eq_true.mp h
    obtain ⟨x, hx, h⟩ := List.any_eq_true.mp h
    unfold clash at h
    simp only [Bool.and_eq_true, Bool.not_eq_true', decide_eq_false_iff_not, decide_eq_true_eq] at h
    refine ⟨_, given_mem.mpr ⟨n, n1, h.1, rfl⟩, x, hx, given_mem.mpr ⟨n, n1, by rw [h.2]; exact h.1, by rw [h.2]⟩⟩
theorem given_len (tab : Tab) (r : List V) : (givenM tab r).length ≤ tab.un.length := by unfold givenM; rw [List.length_map]; exact List.length_filter_le _ _
/-- data of scalars for a comparison of lists -/
theorem vals_dp {K : PySem.W.Frag} {H : Hp} {vs : List V} : (∀ v ∈ vs, ∃ k b, ValOf k b v) → ∃ ds : List PyData, DpAll K H vs ds ∧ ds.length = vs.length ∧ PyData.canLayAll0 ds = true ∧ PyData.depthAll ds ≤ 1 := by
  induction vs with
  | nil => intro _; exact ⟨[], .nil, rfl, by simp [PyData.canLayAll0], by simp [PyData.depthAll]⟩
  | cons v r ih =>
    intro h
    obtain ⟨ds, h1, h2, h3, h4⟩ := ih fun x hx => h x (List.mem_cons_of_mem _ hx)
    obtain ⟨k, b, hv⟩ := h v List.mem_cons_self
    rcases hv with ⟨_, rfl⟩ | ⟨_, i, rfl, _⟩ | ⟨_, z, rfl, _, hz⟩
    · exact ⟨.none :: ds, .cons .non h1, by simp [h2], by simp [PyData.canLayAll0, PyData.canLay0, h3], by simp only [PyData.depthAll, PyData.depth]; omega⟩
    · exact ⟨.int i :: ds, .cons (.int i) h1, by simp [h2], by simp [PyData.canLayAll0, PyData.canLay0, h3], by simp only [PyData.depthAll, PyData.depth]; omega⟩
    · exact ⟨.str z :: ds, .cons (.str z) h1, by simp [h2], by simp [PyData.canLayAll0, PyData.canLay0, h3, strOk_of hz], by simp only [PyData.depthAll, PyData.depth]; omega⟩
/-- keys != [] -/
theorem ne_empty {K : PySem.W.Frag} {H : Hp} {Q : VK} {a e : Addr} {vs : List V} (ha : H a = some (.lst vs)) (he : H e = some (.lst [])) (h : ∀ v ∈ vs, ∃ k b, ValOf k b v) (q : Q (.bl (!vs.isEmpty)) H) : rNeD K (.ref a) (.ref e) H Q := by
  obtain ⟨ds, h1, h2, h3, h4⟩ := vals_dp (K := K) (H := H) h
  refine ⟨.list ds, .list [], .lst (SqL.of ha) h1, .lst (SqL.of he) .nil, ?_, rfl, ?_⟩
  · simp only [SeqAt.shaped, PyData.canLay0, h3, Bool.true_and, PyData.depth]
    exact decide_eq_true (by omega)
  · have e1 : PyData.eqv (.list ds) (.list []) = vs.isEmpty := by
      cases ds with
      | nil => cases vs with
        | nil => rfl
        | cons v r => cases h2
      | cons d r => cases vs with
        | nil => cases h2
        | cons v s => rfl
    rw [e1]; exact q
/-- pairs made of a row, one by one -/
def GivenAt (H : Hp) (gs : List V) (Ms : List (List Key)) : Prop := gs.length = Ms.length ∧ ∀ (j : Nat) (v : V) (M : List Key), gs[j]? = some v → Ms[j]? = some M → ∃ p, v = .ref p ∧ H p = some (.tup (M.map kV))
theorem GivenAt.mono {H H' : Hp} {gs : List V} {Ms : List (List Key)} (h : GivenAt H gs Ms) (k : KeepT H H') : GivenAt H' gs Ms := ⟨h.1, fun j v M h1 h2 => by
  obtain ⟨p, e, g⟩ := h.2 j v M h1 h2
  exact ⟨p, e, k _ _ g⟩⟩
theorem GivenAt.snoc {H : Hp} {gs : List V} {Ms : List (List Key)} {p : Addr} {M : List Key} (h : GivenAt H gs Ms) (g : H p = some (.tup (M.map kV))) : GivenAt H (gs ++ [.ref p]) (Ms ++ [M]) := by
  refine ⟨by rw [List.length_append, List.length_append, h.1]; rfl, fun j v M' h1 h2 => ?_⟩
  by_cases hj : j < gs.length
  · rw [List.getElem?_append_left hj] at h1
    rw [List.getElem?_append_left (by rw [← h.1]; exact hj)] at h2
    exact h.2 j v M' h1 h2
  · have e : j = gs.length := by
      have := (List.getElem?_eq_some_iff.mp h1).1
      rw [List.length_append, List.length_singleton] at this
      omega
    subst e
    rw [List.getElem?_append_right (Nat.le_refl _), Nat.sub_self] at h1
    rw [List.getElem?_append_right (by rw [h.1]; exact Nat.le_refl _), h.1, Nat.sub_self] at h2
    cases h1
    cases h2
    exact ⟨p, rfl, g⟩
theorem GivenAt.get {H : Hp} {gs : List V} {Ms : List (List Key)} (h : GivenAt H gs Ms) {j : Nat} {v : V} (e : gs[j]? = some v) : ∃ M p, Ms[j]? = some M ∧ v = .ref p ∧ H p = some (.tup (M.map kV)) := by
  have hj := (List.getElem?_eq_some_iff.mp e).1
  have hjm : j < Ms.length := by rw [← h.1]; exact hj
  have em : Ms[j]? = some Ms[j] := List.getElem?_eq_getElem hjm
  obtain ⟨p, e1, e2⟩ := h.2 j v _ e em
  exact ⟨_, p, em, e1, e2⟩
/-- the pairs of the first n uniques -/
def givenT (tab : Tab) (r : List V) (n : Nat) : List (List Key) := ((tab.un.take n).filter fun n => !decide (at_ (colNs tab.cols) r n = .non)).map fun n => [Sum.inl (((colNs tab.cols).idxOf n : Nat) : Int), vKey (at_ (colNs tab.cols) r n)]
theorem givenT_all (tab : Tab) (r : List V) {n : Nat} (h : tab.un.length ≤ n) : givenT tab r n = givenM tab r := by unfold givenT givenM; rw [List.take_of_length_le h]
theorem givenT_len (tab : Tab) (r : List V) (n : Nat) : (givenT tab r n).length ≤ tab.un.length := by
  unfold givenT; rw [List.length_map]
  have a := List.length_filter_le (fun n => !decide (at_ (colNs tab.cols) r n = .non)) (tab.un.take n)
  rw [List.length_take] at a
  omega
theorem givenT_step {tab : Tab} {r : List V} {i : Nat} {n : Str} (h : tab.un[i]? = some n) : givenT tab r (i + 1) = if at_ (colNs tab.cols) r n = .non then givenT tab r i else givenT tab r i ++ [[Sum.inl (((colNs tab.cols).idxOf n : Nat) : Int), vKey (at_ (colNs tab.cols) r n)]] := by
  unfold givenT
  rw [List.take_add_one, h, List.filter_append, List.map_append]
  by_cases e : at_ (colNs tab.cols) r n = .non
  · rw [if_pos e]; simp [e]
  · rw [if_neg e]; simp [e]
theorem range_step {n i : Nat} (P : Nat → Bool) (f : Nat → V) : ((List.range (i + 1)).filter P).map f = if P i = true then ((List.range i).filter P).map f ++ [f i] else ((List.range i).filter P).map f := by
  rw [List.range_succ, List.filter_append, List.map_append]
  cases h : P i <;> simp [h]
def stKs (st : List TS) (n : Str) : List Key := match st.find? (fun p => decide (p.n = n)) with | some p => roN p.rs | none => []
theorem st_find {st : List TS} (nm : (stN st).Nodup) {p : TS} (hp : p ∈ st) : st.find? (fun q => decide (q.n = p.n)) = some p := by
  cases e : st.find? (fun q => decide (q.n = p.n)) with
  | none => have := List.find?_eq_none.mp e p hp; simp at this
  | some q =>
    have h1 := List.mem_of_find?_eq_some e
    have h2 : q.n = p.n := by simpa using List.find?_some e
    rw [st_one nm h1 hp h2]
theorem sch_find {s : Sch} (nm : (schN s).Nodup) {p : Ads × Tab} (hp : p ∈ s) : s.find? (fun q => decide (q.2.n = p.2.n)) = some p := by
  cases e : s.find? (fun q => decide (q.2.n = p.2.n)) with
  | none => have := List.find?_eq_none.mp e p hp; simp at this
  | some q =>
    have h1 := List.mem_of_find?_eq_some e
    have h2 : q.2.n = p.2.n := by simpa using List.find?_some e
    rw [sch_one nm h1 hp h2]
theorem stKs_eq {st : List TS} (nm : (stN st).Nodup) {p : TS} (hp : p ∈ st) : stKs st p.n = roN p.rs := by unfold stKs; rw [st_find nm hp]
/-- is a value a key of the table -/
theorem key_in {rs : List Ro} {k : Str} {b : Bool} {v : V} (h : ValOf k b v) (n : v ≠ .non) : (valV (roK rs) (vKey v)).isSome = ((roN rs).any fun q => decide (kV q = v)) := by
  rw [Bool.eq_iff_iff, valV_isSome, roK_keys, List.any_eq_true]
  constructor
  · intro hm
    exact ⟨_, hm, decide_eq_true (kV_vKey h n)⟩
  · rintro ⟨q, hq, e⟩
    have e := of_decide_eq_true e
    have : vKey v = q := by rw [← e]; cases q <;> rfl
    rw [this]; exact hq
/-- a schema and a state of it -/
structure DB (H : Hp) (S : Addr) (s : Sch) (T : Addr) (st : List TS) : Prop where
  sk : H S = some (.dK (schK s))
  ds : ∀ p ∈ s, DescAt H p.1 p.2
  nm : (schN s).Nodup
  ok : ∀ p ∈ s, TabOk (frOf s) p.2
  l6 : s.length ≤ 6
  sa : StAt H T st
  fit : ∀ p ∈ s, ∃ q ∈ st, q.n = p.2.n ∧ TabFit p.2.cols q.rs
theorem DB.mono {H H' : Hp} {S : Addr} {s : Sch} {T : Addr} {st : List TS} (h : DB H S s T st) (e : Same H H') : DB H' S s T st := ⟨e _ _ h.sk, fun p hp => (h.ds p hp).mono e, h.nm, h.ok, h.l6, h.sa.mono e, h.fit⟩
theorem DB.ref {H : Hp} {S : Addr} {s : Sch} {T : Addr} {st : List TS} (h : DB H S s T st) {p : Ads × Tab} (hp : p ∈ s) : ∀ r ∈ p.2.rf, ∃ q ∈ st, q.n = r.2 := fun r hr => by
  obtain ⟨col, _, _, _, f, hf, ef, _⟩ := (h.ok p hp).rc r hr
  obtain ⟨p', hp', rfl⟩ := List.mem_map.mp hf
  obtain ⟨q, hq, e, _⟩ := h.fit p' hp'
  exact ⟨q, hq, e.trans ef⟩
theorem DB.key {H : Hp} {S : Addr} {s : Sch} {T : Addr} {st : List TS} (h : DB H S s T st) {p : Ads × Tab} (hp : p ∈ s) {rs : List Ro} (f : TabFit p.2.cols rs) : OneKind (roN rs) :=
  one_kind (List.getElem?_eq_getElem (h.ok p hp).l0) f.f
theorem DB.rest {cols : List Col} {rs : List Ro} (l5 : cols.length ≤ 5) (f : TabFit cols rs) : ∀ r ∈ rs, r.vs.length ≤ 50 := fun r hr => by
  have := (f.f r hr).r.1
  omega
def faultN (s : Sch) (st : List TS) (n : Str) : Option (Str × Str × V) :=
  match s.find? (fun p => decide (p.2.n = n)), st.find? (fun q => decide (q.n = n)) with
  | some p, some q => (faultT (stKs st) p.2 (rowsM q.rs)).map fun x => (x.1, n, x.2)
  | _, _ => none
def faultK (s : Sch) (st : List TS) : Key → Option (Str × Str × V)
  | .inr n => faultN s st n
  | .inl _ => none
def faultM (s : Sch) (st : List TS) : Option (Str × Str × V) := (sortK ((schN s).map Sum.inr)).findSome? (faultK s st)
def FaultAt (H : Hp) (v : V) : Option (Str × Str × V) → Prop
  | none => v = .non
  | some (c, n, k) => ∃ p, v = .ref p ∧ H p = some (.tup [.str c, .str n, k]) ∧ isScal k = true
theorem faultN_eq {s : Sch} {st : List TS} (nm : (schN s).Nodup) (nt : (stN st).Nodup) {p : Ads × Tab} {q : TS} (hp : p ∈ s) (hq : q ∈ st) (e : q.n = p.2.n) : faultN s st p.2.n = (faultT (stKs st) p.2 (rowsM q.rs)).map fun x => (x.1, p.2.n, x.2) := by
  unfold faultN
  rw [sch_find nm hp, ← e, st_find nt hq]
/-- leads_nowhere -/
def spLeadsNo : Sp := fun vs H Q _ => ∃ (S : Addr) (s : Sch) (T : Addr) (st : List TS) (p : Ads × Tab) (ra N RF : Addr) (r : List V) (rws : List (List V)), vs = [.ref ra, .ref N, .ref RF, .ref T] ∧ DB H S s T st ∧ p ∈ s ∧ H ra = some (.tup r) ∧ r ∈ rws ∧ RowsFit p.2.cols rws ∧
  H N = some (.lst ((colNs p.2.cols).map V.str)) ∧ RF = p.1.r ∧ Q (.bl (badR (stKs st) p.2 r)) H
def spLost : Sp := fun vs H Q _ => ∃ (S : Addr) (s : Sch) (T : Addr) (st : List TS) (p : Ads × Tab) (L : Addr) (rws : List (List V)), vs = [.ref p.1.d, .ref L, .ref T] ∧ DB H S s T st ∧ p ∈ s ∧ RowsAt H L rws ∧ RowsFit p.2.cols rws ∧ ∀ N H', H' N = some (.lst (keysR (stKs st) p.2 rws)) → Same H H' → Q (.ref N) H'
def spTableFault : Sp := fun vs H Q _ => ∃ (S : Addr) (s : Sch) (T : Addr) (st : List TS) (p : Ads × Tab), vs = [.ref S, .ref T, .str p.2.n] ∧ DB H S s T st ∧ p ∈ s ∧ ∀ v H', FaultAt H' v (faultN s st p.2.n) → Same H H' → Q v H'
def spFault : Sp := fun vs H Q _ => ∃ (S : Addr) (s : Sch) (T : Addr) (st : List TS), vs = [.ref S, .ref T] ∧ DB H S s T st ∧ ∀ v H', FaultAt H' v (faultM s st) → Same H H' → Q v H'
theorem keys_scal {cols : List Col} {rws : List (List V)} (F : RowsFit cols rws) (l0 : 1 ≤ cols.length) {r : List V} (hr : r ∈ rws) : ∃ k b, ValOf k b (headV r) := by
  obtain ⟨v, vs, rfl⟩ := F.ne l0 hr
  exact ⟨_, _, F.v _ hr 0 cols[0] v (List.getElem?_eq_getElem l0) rfl⟩
theorem first_filter {α : Type} {P : α → Bool} : ∀ {xs : List α} {i : Nat} {x : α}, xs[i]? = some x → P x = true → (∀ y ∈ xs.take i, P y = false) → ∃ rest, xs.filter P = x :: rest
  | [], i, x, h, _, _ => by simp at h
  | y :: r, 0, x, h, hp, _ => by
    simp at h
    subst h
    exact ⟨r.filter P, by rw [List.filter_cons, if_pos hp]⟩
  | y :: r, i + 1, x, h, hp, hn => by
    have hy : P y = false := hn y (by rw [List.take_succ_cons]; exact List.mem_cons_self)
    obtain ⟨rest, e⟩ := first_filter (xs := r) (i := i) (by simpa using h) hp fun z hz => hn z (by rw [List.take_succ_cons]; exact List.mem_cons_of_mem _ hz)
    exact ⟨rest, by rw [List.filter_cons, if_neg (by rw [hy]; decide), e]⟩
theorem none_filter {α : Type} {P : α → Bool} {xs : List α} (h : ∀ y ∈ xs, P y = false) : xs.filter P = [] := List.filter_eq_nil_iff.mpr fun y hy => by rw [h y hy]; decide
theorem take_step {α : Type} {P : α → Bool} {xs : List α} {i : Nat} {x : α} (h : xs[i]? = some x) (a : ∀ y ∈ xs.take i, P y = false) (b : P x = false) : ∀ y ∈ xs.take (i + 1), P y = false := fun y hy => by
  rw [List.take_add_one, h] at hy
  rcases List.mem_append.mp hy with hy | hy
  · exact a y hy
  · have : y = x := by simpa using hy
    rw [this]; exact b
theorem findSome_step {α β : Type} {f : α → Option β} {xs : List α} {i : Nat} {x : α} (h : xs[i]? = some x) (a : (xs.take i).findSome? f = none) (b : f x = none) : (xs.take (i + 1)).findSome? f = none := by
  rw [List.take_add_one, h, List.findSome?_append, a]
  simp [b]
theorem findSome_hit {α β : Type} {f : α → Option β} {xs : List α} {i : Nat} {x : α} {y : β} (h : xs[i]? = some x) (a : (xs.take i).findSome? f = none) (b : f x = some y) : xs.findSome? f = some y := by
  have e : xs = xs.take (i + 1) ++ xs.drop (i + 1) := (List.take_append_drop (i + 1) xs).symm
  rw [e, List.findSome?_append, List.take_add_one, h, List.findSome?_append, a]
  simp [b]
def spLawFault : Sp := spFault
def spBreaksC : Sp := fun vs H Q _ => ∃ (a : Ads) (tab : Tab) (ra : Addr) (r : List V) (rws : List (List V)) (fr : List (Str × List Col)), vs = [.ref a.d, .ref ra] ∧ DescAt H a tab ∧ TabOk fr tab ∧ H ra = some (.tup r) ∧ r ∈ rws ∧ RowsFit tab.cols rws ∧ ∀ H', Same H H' → Q (.bl (badC tab r)) H'
def spBreaksU : Sp := fun vs H Q _ => ∃ (a : Ads) (tab : Tab) (ra E : Addr) (r : List V) (ews rws : List (List V)) (fr : List (Str × List Col)), vs = [.ref a.d, .ref E, .ref ra] ∧ DescAt H a tab ∧ TabOk fr tab ∧ H ra = some (.tup r) ∧ r ∈ rws ∧ (∀ x ∈ ews, x ∈ rws) ∧ RowsFit tab.cols rws ∧ RowsAt H E ews ∧ ∀ H', Same H H' → Q (.bl (badU tab ews r)) H'
def spBreaksR : Sp := fun vs H Q _ => ∃ (S : Addr) (s : Sch) (T : Addr) (st : List TS) (p : Ads × Tab) (ra : Addr) (r : List V) (rws : List (List V)), vs = [.ref p.1.d, .ref T, .ref ra] ∧ DB H S s T st ∧ p ∈ s ∧ H ra = some (.tup r) ∧ r ∈ rws ∧ RowsFit p.2.cols rws ∧ ∀ H', Same H H' → Q (.bl (badR (stKs st) p.2 r)) H'
/-- the four codes, each with the keys of the rows that it is true for -/
def codesM (ks : Str → List Key) (tab : Tab) (rws : List (List V)) : List (Str × List V) := [("full", keysF rws), ("check", keysC tab rws), ("unique", keysU tab rws), ("reference", keysR ks tab rws)]
def hitM (c : Str × List V) : Option (Str × V) := match c.2 with | k :: _ => some (c.1, k) | [] => none
theorem faultT_codes (ks : Str → List Key) (tab : Tab) (rws : List (List V)) : faultT ks tab rws = (codesM ks tab rws).findSome? hitM := by
  unfold faultT codesM hitM
  simp only [List.findSome?_cons, List.findSome?_nil]
  cases keysF rws with
  | cons k r => rfl
  | nil =>
    cases keysC tab rws with
    | cons k r => rfl
    | nil =>
      cases keysU tab rws with
      | cons k r => rfl
      | nil => cases keysR ks tab rws <;> rfl
theorem codes_val {ks : Str → List Key} {cols : List Col} {tab : Tab} {rws : List (List V)} (F : RowsFit cols rws) (l0 : 1 ≤ cols.length) : ∀ c ∈ codesM ks tab rws, ∀ v ∈ c.2, ∃ k b, ValOf k b v := by
  intro c hc v hv
  unfold codesM at hc
  simp only [List.mem_cons, List.not_mem_nil, or_false] at hc
  rcases hc with rfl | rfl | rfl | rfl
  · obtain ⟨r, h1, rfl⟩ := List.mem_map.mp hv
    exact keys_scal F l0 (List.mem_of_mem_drop h1)
  · obtain ⟨r, h1, rfl⟩ := List.mem_map.mp hv
    exact keys_scal F l0 (List.mem_filter.mp h1).1
  · obtain ⟨r, h1, rfl⟩ := List.mem_map.mp hv
    have := List.mem_range.mp (List.mem_filter.mp h1).1
    have e : rws.getD r [] = rws[r] := by rw [List.getD_eq_getElem?_getD, List.getElem?_eq_getElem this]; rfl
    show ∃ k b, ValOf k b (headV (rws.getD r []))
    rw [e]
    exact keys_scal F l0 (List.getElem_mem this)
  · obtain ⟨r, h1, rfl⟩ := List.mem_map.mp hv
    exact keys_scal F l0 (List.mem_filter.mp h1).1
theorem at_vals {cols : List Col} {rws : List (List V)} (F : RowsFit cols rws) {n : Str} (hn : n ∈ colNs cols) : ∃ k b, ∀ r ∈ rws, ValOf k b (at_ (colNs cols) r n) := by
  obtain ⟨j, e1, e2, _, _⟩ := idx_str hn
  have hj : j < cols.length := by unfold colNs at e2; rwa [List.length_map] at e2
  refine ⟨cols[j].k, cols[j].b, fun r hr => ?_⟩
  have hl := F.n r hr
  have er : r[j]? = some r[j] := List.getElem?_eq_getElem (by omega)
  have ea : at_ (colNs cols) r n = r[j] := by unfold at_; rw [← e1]; exact getD_some er
  rw [ea]
  exact F.v r hr j cols[j] _ (List.getElem?_eq_getElem hj) er
theorem val_scal {k : Str} {b : Bool} {v w : V} (h : ValOf k b v) (g : ValOf k b w) : scal v w = true := by
  rcases h with ⟨_, rfl⟩ | ⟨k1, i, rfl, _⟩ | ⟨k1, z, rfl, _⟩ <;> rcases g with ⟨_, rfl⟩ | ⟨k2, j, rfl, _⟩ | ⟨k2, y, rfl, _⟩ <;> first | rfl | exact absurd k1 k2 | exact absurd k2 k1
/-! ## states drawn -/
def spRowsDraw : Sp := fun vs H Q _ => ∃ (t c L : Addr) (cs : List Int) (cols : List Col) (most : Int), vs = [.ref t, .ref L, .int most] ∧ TapeAt H t c cs ∧ ColsAt H L cols ∧ 0 < cols.length ∧ cols.length ≤ 100 ∧ 0 ≤ most ∧ most ≤ 20 ∧
  ∀ d rs H', TAt H' d rs → (∀ r ∈ rs, RowFit cols r) → (rs.length : Int) ≤ most → H d = none → TapeAt H' t c cs → SameX t H H' → Q (.ref d) H'
/-- tables with rows, for each table of the schema one -/
structure StFit (s : Sch) (st : List TS) (most : Nat) : Prop where
  f : ∀ p ∈ s, ∃ q ∈ st, q.n = p.2.n ∧ (∀ r ∈ q.rs, RowFit p.2.cols r)
  l : ∀ q ∈ st, q.rs.length ≤ most
  n : ∀ q ∈ st, q.n ∈ schN s
  e : st.length = s.length
def stD (T : Addr) (st : List TS) : List Addr := T :: st.map fun q => q.d
def spState : Sp := fun vs H Q _ => ∃ (t c S : Addr) (cs : List Int) (s : Sch) (most : Int), vs = [.ref t, .ref S, .int most] ∧ TapeAt H t c cs ∧ SchAt H S s t c ∧ (∀ p ∈ s, TabOk (frOf s) p.2) ∧ s.length ≤ 6 ∧ 0 ≤ most ∧ most ≤ 20 ∧
  ∀ T st H', StAt H' T st → StFit s st most.toNat → (stD T st).Nodup → (∀ a ∈ stD T st, H a = none) → TapeAt H' t c cs → SameX t H H' → Q (.ref T) H'
theorem ValOf.key {k : Str} {v : V} (h : ValOf k false v) : kV (vKey v) = v := kV_vKey h (by
  rcases h with ⟨e, _⟩ | ⟨_, i, rfl, _⟩ | ⟨_, z, rfl, _⟩
  · cases e
  · intro z; cases z
  · intro z; cases z)
theorem RowFit.mk' {cols : List Col} {c : Col} {v : V} {vs : List V} {a : Addr} (hc : cols[0]? = some c) (h : ValOf c.k false v) (r : RestOf cols vs) : RowFit cols ⟨vKey v, a, vs⟩ := ⟨fun c' hc' => by
  rw [hc] at hc'
  cases hc'
  show ValOf c.k false (kV (vKey v))
  rw [h.key]
  exact h, r⟩
theorem st_new {st : List TS} {x : TS} (h : x.n ∉ stN st) : putK (stK st) (Sum.inr x.n : Key) (.ref x.d) = stK (st ++ [x]) := by
  rw [putK_fresh]
  · unfold stK; rw [List.map_append]; rfl
  · rw [st_keys]
    intro z
    obtain ⟨y, h1, h2⟩ := List.mem_map.mp z
    cases h2
    exact h h1
/-- _law_fill -/
def spFill : Sp := fun vs H Q _ => ∃ (t c S T : Addr) (cs : List Int) (s : Sch) (st : List TS), vs = [.ref t, .ref S, .ref T] ∧ TapeAt H t c cs ∧ SchAt H S s t c ∧ (∀ p ∈ s, TabOk (frOf s) p.2) ∧ 1 ≤ s.length ∧ s.length ≤ 6 ∧ StAt H T st ∧ StFit s st 6 ∧ (t :: stD T st).Nodup ∧
  ∀ st' H', StAt H' T st' → StFit s st' 80 → stD T st' = stD T st → TapeAt H' t c cs → SameE (t :: stD T st) H H' → Q .non H'
theorem ks_len {x : Str} (h : x.length ≤ 10) (h2 : ∀ c ∈ tl x, c = 45 ∨ (48 ≤ c ∧ c ≤ 57)) : ((("k" : Str) ++ x)).length ≤ 30 ∧ ∀ c ∈ tl (("k" : Str) ++ x), chOk c := by
  have e : tl ("k" : Str) = [107] := by decide +kernel
  refine ⟨?_, fun c hc => ?_⟩
  · rw [len_app, len_tl, e]; show 1 + _ ≤ 30; omega
  · rw [tl_append, e] at hc
    rcases List.mem_cons.mp hc with rfl | hc
    · decide
    · exact digit_ok (h2 c hc)
theorem natSm {x : Int} (h : 0 ≤ x) (h2 : x ≤ 1000) : x.natAbs < 2 ^ 9000 := by
  have h1 : x.natAbs ≤ 1000 := by omega
  exact Nat.lt_of_le_of_lt h1 (by decide +kernel)
theorem SchAt.other {H : Hp} {S M t c : Addr} {s : Sch} {kvs : List (Key × V)} {o : HO} (A : SchAt H S s t c) (hM : H M = some (.dK kvs)) (n1 : S ≠ M) (n2 : ∀ p ∈ s, p.1.d ≠ M) : SchAt (upd H M o) S s t c :=
  ⟨by rw [upd_ne n1]; exact A.sk, fun p hp => (A.ds p hp).lock hM (n2 p hp), A.nm, A.dn, A.ln⟩
/-- a row put into the table n -/
def putSt (st : List TS) (n : Str) (r : Ro) : List TS := st.map fun q => if q.n = n then ⟨q.n, q.d, putRo q.rs r⟩ else q
theorem putSt_map {α : Type} (f : TS → α) (st : List TS) (n : Str) (r : Ro) (h : ∀ q : TS, f ⟨q.n, q.d, putRo q.rs r⟩ = f q) : (putSt st n r).map f = st.map f := by
  unfold putSt
  rw [List.map_map]
  refine List.map_congr_left fun q _ => ?_
  show f (if q.n = n then ⟨q.n, q.d, putRo q.rs r⟩ else q) = f q
  split
  · exact h q
  · rfl
theorem putSt_K (st : List TS) (n : Str) (r : Ro) : stK (putSt st n r) = stK st := putSt_map (fun p => ((Sum.inr p.n : Key), V.ref p.d)) st n r fun _ => rfl
theorem putSt_N (st : List TS) (n : Str) (r : Ro) : stN (putSt st n r) = stN st := putSt_map (fun p => p.n) st n r fun _ => rfl
theorem putSt_D (T : Addr) (st : List TS) (n : Str) (r : Ro) : stD T (putSt st n r) = stD T st := by unfold stD; rw [putSt_map (fun p => p.d) st n r fun _ => rfl]
theorem putSt_mem {st : List TS} {n : Str} {r : Ro} {x : TS} (h : x ∈ putSt st n r) : ∃ q ∈ st, x.n = q.n ∧ x.d = q.d ∧ ((q.n = n ∧ x.rs = putRo q.rs r) ∨ (q.n ≠ n ∧ x = q)) := by
  obtain ⟨q, h1, rfl⟩ := List.mem_map.mp h
  refine ⟨q, h1, ?_⟩
  by_cases e : q.n = n
  · rw [if_pos e]; exact ⟨rfl, rfl, .inl ⟨e, rfl⟩⟩
  · rw [if_neg e]; exact ⟨rfl, rfl, .inr ⟨e, rfl⟩⟩
theorem putSt_at {st : List TS} {n : Str} {r : Ro} {q : TS} (h : q ∈ st) : (if q.n = n then (⟨q.n, q.d, putRo q.rs r⟩ : TS) else q) ∈ putSt st n r := List.mem_map.mpr ⟨q, h, rfl⟩
theorem st_d_one {T : Addr} {st : List TS} (nd : (stD T st).Nodup) {p q : TS} (hp : p ∈ st) (hq : q ∈ st) (e : p.d = q.d) : p = q := by
  have nd := (List.nodup_cons.mp nd).2
  obtain ⟨i, hi, ei⟩ := List.getElem_of_mem hp
  obtain ⟨j, hj, ej⟩ := List.getElem_of_mem hq
  have a1 : (st.map fun q => q.d)[i]? = some p.d := by rw [List.getElem?_map, List.getElem?_eq_getElem hi, ei]; rfl
  have a2 : (st.map fun q => q.d)[j]? = some p.d := by rw [List.getElem?_map, List.getElem?_eq_getElem hj, ej]; exact congrArg some e.symm
  have := nd_ix nd a1 a2
  subst this
  rw [← ei, ← ej]
theorem StAt.put {H : Hp} {T : Addr} {st : List TS} {q : TS} {r : Ro} (B : StAt H T st) (nd : (stD T st).Nodup) (hq : q ∈ st) (hr : H r.a = some (.tup r.vs)) : StAt (upd H q.d (.dK (roK (putRo q.rs r)))) T (putSt st q.n r) := by
  have dk := (B.ds q hq).dk
  have ku : KeepT H (upd H q.d (.dK (roK (putRo q.rs r)))) := KeepT.lock dk
  have nT : T ≠ q.d := fun e => (List.nodup_cons.mp nd).1 (List.mem_map.mpr ⟨q, hq, e.symm⟩)
  refine ⟨by rw [upd_ne nT, putSt_K]; exact B.sk, fun x hx => ?_, by rw [putSt_N]; exact B.nm⟩
  obtain ⟨z, hz, en, ed, h⟩ := putSt_mem hx
  have A := B.ds z hz
  rcases h with ⟨e, ers⟩ | ⟨e, rfl⟩
  · have : z = q := st_one B.nm hz hq e
    subst this
    rw [ed, ers]
    refine ⟨upd_same, fun y hy => ?_, putRo_nd A.nd r⟩
    rcases putRo_mem hy with ⟨_, ea, ev⟩ | hy
    · rw [ea, ev]; exact ku _ _ hr
    · exact ku _ _ (A.rt y hy)
  · have nd' : x.d ≠ q.d := fun e' => e (by rw [st_d_one nd hz hq e'])
    exact A.mono ku fun o h => by rw [upd_ne nd']; exact h
end Lt
namespace Lt
open PySem L2 TL
open C8 (pss_cut)
def topS (i : Nat) : Stmt := PySem.Challenge.pw_lenstree_k09_first_fault.main.body.getD i (.Pass ⟨0, 0, 0, 0⟩)
structure Z (mg : Str → Option Value) : Prop where
  abs : mg "abs" = none
  int : mg "int" = none
  len : mg "len" = none
  range : mg "range" = none
  list : mg "list" = none
  str : mg "str" = none
  tuple : mg "tuple" = none
  sorted : mg "sorted" = none
  isinstance : mg "isinstance" = none
  dict : mg "dict" = none
  any : mg "any" = none
  all : mg "all" = none
  bool : mg "bool" = none
  c_MOST_ROWS : ∃ t, mg "MOST_ROWS" = some (Value.int 60 t)
abbrev s_law_tape : Stmt := topS 17
theorem sc_law_tape : FnScope ["script", "cell", "cells", "seed"] ["script"] (defScope s_law_tape) := ⟨rfl, rfl, rfl, by decide +kernel, rfl, by decide +kernel, by decide +kernel⟩
abbrev s_law_take : Stmt := topS 18
theorem sc_law_take : FnScope ["tape", "many", "drawn", "mixed"] ["tape", "many"] (defScope s_law_take) := ⟨rfl, rfl, rfl, by decide +kernel, rfl, by decide +kernel, by decide +kernel⟩
abbrev s_law_name : Stmt := topS 27
theorem sc_law_name : FnScope ["tape", "used", "letters", "signs", "size", "k", "name"] ["tape", "used"] (defScope s_law_name) := ⟨rfl, rfl, rfl, by decide +kernel, rfl, by decide +kernel, by decide +kernel⟩
abbrev s_law_table : Stmt := topS 29
theorem sc_law_table : FnScope ["columns"] ["columns"] (defScope s_law_table) := ⟨rfl, rfl, rfl, by decide +kernel, rfl, by decide +kernel, by decide +kernel⟩
abbrev s_law_columns : Stmt := topS 28
theorem sc_law_columns : FnScope ["tape", "used", "many", "kinds", "columns", "k"] ["tape", "used", "many"] (defScope s_law_columns) := ⟨rfl, rfl, rfl, by decide +kernel, rfl, by decide +kernel, by decide +kernel⟩
abbrev s_law_names : Stmt := topS 30
theorem sc_law_names : FnScope ["columns", "column"] ["columns"] (defScope s_law_names) := ⟨rfl, rfl, rfl, by decide +kernel, rfl, by decide +kernel, by decide +kernel⟩
abbrev s_law_integer : Stmt := topS 25
theorem sc_law_integer : FnScope ["tape", "choice"] ["tape"] (defScope s_law_integer) := ⟨rfl, rfl, rfl, by decide +kernel, rfl, by decide +kernel, by decide +kernel⟩
abbrev s_law_char : Stmt := topS 23
theorem sc_law_char : FnScope ["tape", "chars"] ["tape"] (defScope s_law_char) := ⟨rfl, rfl, rfl, by decide +kernel, rfl, by decide +kernel, by decide +kernel⟩
abbrev s_law_text : Stmt := topS 24
theorem sc_law_text : FnScope ["tape", "size", "k"] ["tape"] (defScope s_law_text) := ⟨rfl, rfl, rfl, by decide +kernel, rfl, by decide +kernel, by decide +kernel⟩
abbrev s_law_value : Stmt := topS 26
theorem sc_law_value : FnScope ["tape", "kind", "nullable"] ["tape", "kind", "nullable"] (defScope s_law_value) := ⟨rfl, rfl, rfl, by decide +kernel, rfl, by decide +kernel, by decide +kernel⟩
abbrev s_law_clause : Stmt := topS 31
theorem sc_law_clause : FnScope ["tape", "columns", "column", "operator"] ["tape", "columns"] (defScope s_law_clause) := ⟨rfl, rfl, rfl, by decide +kernel, rfl, by decide +kernel, by decide +kernel⟩
abbrev s_law_condition : Stmt := topS 32
theorem sc_law_condition : FnScope ["tape", "columns", "condition", "k", "many", "j"] ["tape", "columns"] (defScope s_law_condition) := ⟨rfl, rfl, rfl, by decide +kernel, rfl, by decide +kernel, by decide +kernel⟩
abbrev s_law_limits : Stmt := topS 36
theorem sc_law_limits : FnScope ["tape", "schema", "table", "columns", "names", "name", "others", "k", "column", "other"] ["tape", "schema", "table"] (defScope s_law_limits) := ⟨rfl, rfl, rfl, by decide +kernel, rfl, by decide +kernel, by decide +kernel⟩
abbrev s_law_schema : Stmt := topS 37
theorem sc_law_schema : FnScope ["tape", "least", "most", "used", "schema", "k", "table"] ["tape", "least", "most"] (defScope s_law_schema) := ⟨rfl, rfl, rfl, by decide +kernel, rfl, by decide +kernel, by decide +kernel⟩
abbrev s_law_rest : Stmt := topS 38
theorem sc_law_rest : FnScope ["tape", "columns", "column"] ["tape", "columns"] (defScope s_law_rest) := ⟨rfl, rfl, rfl, by decide +kernel, rfl, by decide +kernel, by decide +kernel⟩
abbrev s_law_rows : Stmt := topS 39
theorem sc_law_rows : FnScope ["tape", "columns", "most", "lines", "k"] ["tape", "columns", "most"] (defScope s_law_rows) := ⟨rfl, rfl, rfl, by decide +kernel, rfl, by decide +kernel, by decide +kernel⟩
abbrev s_law_state : Stmt := topS 40
theorem sc_law_state : FnScope ["tape", "schema", "most", "state", "table"] ["tape", "schema", "most"] (defScope s_law_state) := ⟨rfl, rfl, rfl, by decide +kernel, rfl, by decide +kernel, by decide +kernel⟩
abbrev s_law_fill : Stmt := topS 46
theorem sc_law_fill : FnScope ["tape", "schema", "state", "table", "columns", "rest", "k", "key"] ["tape", "schema", "state"] (defScope s_law_fill) := ⟨rfl, rfl, rfl, by decide +kernel, rfl, by decide +kernel, by decide +kernel⟩
abbrev s_law_copy : Stmt := topS 22
theorem sc_law_copy : FnScope ["thing", "result", "key", "item"] ["thing"] (defScope s_law_copy) := ⟨rfl, rfl, rfl, by decide +kernel, rfl, by decide +kernel, by decide +kernel⟩
abbrev s_rows : Stmt := topS 8
theorem sc_rows : FnScope ["state", "table", "key"] ["state", "table"] (defScope s_rows) := ⟨rfl, rfl, rfl, by decide +kernel, rfl, by decide +kernel, by decide +kernel⟩
abbrev s_column_names : Stmt := topS 5
theorem sc_column_names : FnScope ["description", "column"] ["description"] (defScope s_column_names) := ⟨rfl, rfl, rfl, by decide +kernel, rfl, by decide +kernel, by decide +kernel⟩
abbrev s_leads_nowhere : Stmt := topS 12
theorem sc_leads_nowhere : FnScope ["row", "names", "references", "state", "name", "other", "value"] ["row", "names", "references", "state"] (defScope s_leads_nowhere) := ⟨rfl, rfl, rfl, by decide +kernel, rfl, by decide +kernel, by decide +kernel⟩
abbrev s_lost_keys : Stmt := topS 13
theorem sc_lost_keys : FnScope ["description", "listed", "state", "names", "row"] ["description", "listed", "state"] (defScope s_lost_keys) := ⟨rfl, rfl, rfl, by decide +kernel, rfl, by decide +kernel, by decide +kernel⟩
abbrev s_repeated_keys : Stmt := topS 11
theorem sc_repeated_keys : FnScope ["description", "listed", "names", "places", "found", "seen", "row", "given", "pair", "name", "place"] ["description", "listed"] (defScope s_repeated_keys) := ⟨rfl, rfl, rfl, by decide +kernel, rfl, by decide +kernel, by decide +kernel⟩
abbrev s_compares : Stmt := topS 1
theorem sc_compares : FnScope ["value", "operator", "operand"] ["value", "operator", "operand"] (defScope s_compares) := ⟨rfl, rfl, rfl, by decide +kernel, rfl, by decide +kernel, by decide +kernel⟩
abbrev s_clause_holds : Stmt := topS 2
theorem sc_clause_holds : FnScope ["clause", "names", "row", "column", "operator", "operand", "value"] ["clause", "names", "row"] (defScope s_clause_holds) := ⟨rfl, rfl, rfl, by decide +kernel, rfl, by decide +kernel, by decide +kernel⟩
abbrev s_holds : Stmt := topS 3
theorem sc_holds : FnScope ["condition", "names", "row", "alternative", "clause"] ["condition", "names", "row"] (defScope s_holds) := ⟨rfl, rfl, rfl, by decide +kernel, rfl, by decide +kernel, by decide +kernel⟩
abbrev s_unchecked_keys : Stmt := topS 10
theorem sc_unchecked_keys : FnScope ["description", "listed", "names", "row", "check"] ["description", "listed"] (defScope s_unchecked_keys) := ⟨rfl, rfl, rfl, by decide +kernel, rfl, by decide +kernel, by decide +kernel⟩
abbrev s_excess_keys : Stmt := topS 9
theorem sc_excess_keys : FnScope ["listed", "row"] ["listed"] (defScope s_excess_keys) := ⟨rfl, rfl, rfl, by decide +kernel, rfl, by decide +kernel, by decide +kernel⟩
abbrev s_table_fault : Stmt := topS 14
theorem sc_table_fault : FnScope ["schema", "state", "table", "description", "listed", "code", "keys"] ["schema", "state", "table"] (defScope s_table_fault) := ⟨rfl, rfl, rfl, by decide +kernel, rfl, by decide +kernel, by decide +kernel⟩
abbrev s_first_fault : Stmt := topS 15
theorem sc_first_fault : FnScope ["schema", "state", "table", "fault"] ["schema", "state"] (defScope s_first_fault) := ⟨rfl, rfl, rfl, by decide +kernel, rfl, by decide +kernel, by decide +kernel⟩
abbrev s_law_is_integer : Stmt := topS 19
theorem sc_law_is_integer : FnScope ["actual"] ["actual"] (defScope s_law_is_integer) := ⟨rfl, rfl, rfl, by decide +kernel, rfl, by decide +kernel, by decide +kernel⟩
abbrev s_law_same_items : Stmt := topS 20
theorem sc_law_same_items : FnScope ["actual", "expected", "k"] ["actual", "expected"] (defScope s_law_same_items) := ⟨rfl, rfl, rfl, by decide +kernel, rfl, by decide +kernel, by decide +kernel⟩
abbrev s_law_same : Stmt := topS 21
theorem sc_law_same : FnScope ["actual", "expected", "key"] ["actual", "expected"] (defScope s_law_same) := ⟨rfl, rfl, rfl, by decide +kernel, rfl, by decide +kernel, by decide +kernel⟩
abbrev s_law_sorted_rows : Stmt := topS 41
theorem sc_law_sorted_rows : FnScope ["rows_v", "key"] ["rows_v"] (defScope s_law_sorted_rows) := ⟨rfl, rfl, rfl, by decide +kernel, rfl, by decide +kernel, by decide +kernel⟩
abbrev s_law_compares : Stmt := topS 33
theorem sc_law_compares : FnScope ["value", "operator", "operand"] ["value", "operator", "operand"] (defScope s_law_compares) := ⟨rfl, rfl, rfl, by decide +kernel, rfl, by decide +kernel, by decide +kernel⟩
abbrev s_law_clause_holds : Stmt := topS 34
theorem sc_law_clause_holds : FnScope ["clause", "names", "row", "value"] ["clause", "names", "row"] (defScope s_law_clause_holds) := ⟨rfl, rfl, rfl, by decide +kernel, rfl, by decide +kernel, by decide +kernel⟩
abbrev s_law_holds : Stmt := topS 35
theorem sc_law_holds : FnScope ["condition", "names", "row", "result", "alternative", "good", "clause"] ["condition", "names", "row"] (defScope s_law_holds) := ⟨rfl, rfl, rfl, by decide +kernel, rfl, by decide +kernel, by decide +kernel⟩
abbrev s_law_breaks_check : Stmt := topS 42
theorem sc_law_breaks_check : FnScope ["description", "row", "names", "check"] ["description", "row"] (defScope s_law_breaks_check) := ⟨rfl, rfl, rfl, by decide +kernel, rfl, by decide +kernel, by decide +kernel⟩
abbrev s_law_breaks_unique : Stmt := topS 43
theorem sc_law_breaks_unique : FnScope ["description", "earlier", "row", "names", "name", "at", "other"] ["description", "earlier", "row"] (defScope s_law_breaks_unique) := ⟨rfl, rfl, rfl, by decide +kernel, rfl, by decide +kernel, by decide +kernel⟩
abbrev s_law_breaks_reference : Stmt := topS 44
theorem sc_law_breaks_reference : FnScope ["description", "state", "row", "names", "name", "other", "value"] ["description", "state", "row"] (defScope s_law_breaks_reference) := ⟨rfl, rfl, rfl, by decide +kernel, rfl, by decide +kernel, by decide +kernel⟩
abbrev s_law_fault : Stmt := topS 45
theorem sc_law_fault : FnScope ["schema", "state", "table", "description", "rows_v", "row", "k"] ["schema", "state"] (defScope s_law_fault) := ⟨rfl, rfl, rfl, by decide +kernel, rfl, by decide +kernel, by decide +kernel⟩
abbrev s_law : Stmt := topS 47
theorem sc_law : FnScope ["script", "tape", "schema", "state", "before", "actual"] ["script"] (defScope s_law) := ⟨rfl, rfl, rfl, by decide +kernel, rfl, by decide +kernel, by decide +kernel⟩
section
variable {P : Program} {w : World} {K : PySem.W.Frag} {mg : Str → Option Value} {base : Heap}
theorem ok_law_tape {f : Addr} {fd : FuncData} (k : Kn K mg "_law_tape" s_law_tape ["script"] f fd) (z : Z mg) :
    Cal P w K mg base 1 "_law_tape" ["script"] (spTape K) f fd := k.cal (by
  refine k.F.ok sc_law_tape (fun vs H Q E h => ?_) (fun cdv A outer s H vs Q E hr h => ?_)
  · obtain ⟨a, ns, rfl, _⟩ := h; rfl
  · obtain ⟨a, ns, rfl, hS, h63, q⟩ := h
    have hu := hu_of hr
    refine ⟨_, (pss_cons (ps_setLc (i := 2) (own := [("cell", 1)]) (g := gName 1) (tt := tYes) (by rfl) sc_law_tape.nd rfl rfl (sw_true rfl rfl rfl (by decide +kernel)) (pi_list (pv 0)) (blkOk_by (own := [("cell", 1)]) (N := ["script", "cell", "cells", "seed"]) (sc := defScope s_law_tape) (by decide +kernel)) (fun _ _ _ _ _ => pg_name (i := 1) sc_law_tape.nd rfl (Or.inl rfl)) (fun _ _ _ _ _ => pts_nil) (fun _ _ _ _ _ => (pe_callB call_abs (by rfl) z.abs (by decide +kernel) (pa_cons (pe_callTy call_int1 (by rfl) z.int (by decide +kernel) (pa_cons (pv 1) pa_nil)) pa_nil))))
        (pss_cons (ps_set (i := 3) sc_law_tape.nd rfl (Or.inl rfl) pe_int)
        (pss_cons (ps_for PassesOwn.never rfl (pi_list (pv 2)) (pg_name (i := 1) sc_law_tape.nd rfl (Or.inl rfl))
        (pss_one (ps_set (i := 3) sc_law_tape.nd rfl (Or.inl rfl) (pe_op op_mod (pe_callTy call_int1 (by rfl) z.int (by decide +kernel) (pa_cons (pe_op op_add (pe_op op_mul (pv 3) pe_int) (pv 1)) pa_nil)) pe_int))))
        (pss_one (ps_ret (pe_disp (pps_cons pe_str (pv 2) (pps_cons pe_str pe_int (pps_cons pe_str pe_int (pps_cons pe_str (pv 3) (pps_cons pe_str pe_int pps_nil))))) (by rfl) (by rfl) (fun z => by cases z) (by decide))))))), ?_⟩
    refine ⟨_, rfl, a, rfl, ⟨_, hS⟩, fun D hD => lc_list (K := K) (a := a) (xs := ns.map V.int) (fun i H' => ∃ cs : List Int, H' D = some (.lst (cs.map V.int)) ∧ cs.length = i ∧ (∀ x ∈ cs, (0 : Int) ≤ x) ∧ Same H H') ⟨[], upd_same, rfl, (by intro x hx; cases hx), same_new hD _⟩ (fun i H' _ ⟨_, _, _, _, s1⟩ => s1.seq hS) ?_ ?_⟩
    · rintro i x H1 hi ⟨cs, hc, hl, hn, s1⟩
      obtain ⟨z, rfl, hz⟩ := int_at hi
      have hi63 : i < ns.length := (List.getElem?_eq_some_iff.mp hz).1
      refine ⟨rfl, _, rfl, .inl ⟨z, rfl, z, rfl, _, hc, (by rw [List.length_map]; exact small1000 (by omega)), cs ++ [if z < 0 then -z else z], ?_, by simp [hl], ?_, same_upd hD _ s1⟩⟩
      · rw [upd_same, List.map_append]; rfl
      · intro y hy
        rcases List.mem_append.mp hy with hy | hy
        · exact hn y hy
        · rw [List.mem_singleton.mp hy]
          by_cases h0 : z < 0
          · rw [if_pos h0]; omega
          · rw [if_neg h0]; omega
    · rintro H1 ⟨cs, hc, hl, hn, s1⟩
      refine ⟨_, rfl, D, rfl, ⟨_, SqL.of hc⟩, for_list (K := K) (a := D) (xs := cs.map V.int) (fun i σ H2 => ∃ v s, σ = [some (.ref a), v, some (.ref D), some (.int s)] ∧ H2 = H1) ⟨none, 7, rfl, rfl⟩ (fun i σ H2 _ ⟨_, _, _, e⟩ => by rw [e]; exact SqL.of hc) ?_ ?_⟩
      · rintro i x σ H2 hi ⟨v, s, rfl, rfl⟩
        obtain ⟨z, rfl, hz⟩ := int_at hi
        refine ⟨_, rfl, _, _, rfl, rfl, .inr ⟨by decide, by decide⟩, _, rfl, _, _, rfl, rfl, .inl ⟨_, rfl, _, _, rfl, rfl, (by show (0 : Int) < 2147483647; decide), ?_⟩⟩
        exact ⟨_, _, rfl, rfl⟩
      · rintro σ H2 ⟨v, s, rfl, rfl⟩
        refine fun p hp => ⟨_, rfl, _, rfl, upd_same, tk D 0 0 s 0, rfl, (by show 5 ≤ 15; decide), ?_⟩
        have hp0 : H p = none := s1.free hp
        refine q p D cs _ ⟨⟨0, 0, s, 0, by rw [upd_same, merge_tk], Int.le_refl _, Int.le_refl _⟩, ?_, hn⟩ (same_upd hp0 _ (same_upd hp0 _ s1)) hp0
        rw [upd_ne (ne_of_none hc hp), upd_ne (ne_of_none hc hp)]
        exact hc)
theorem ok_law_take {f : Addr} {fd : FuncData} (k : Kn K mg "_law_take" s_law_take ["tape", "many"] f fd) (z : Z mg) :
    Cal P w K mg base 1 "_law_take" ["tape", "many"] (spTake) f fd := k.cal (by
  refine k.F.ok sc_law_take (fun vs H Q E h => ?_) (fun cdv A outer s H vs Q E hr h => ?_)
  · obtain ⟨t, c, cs, many, rfl, _⟩ := h; rfl
  · obtain ⟨t, c, cs, many, rfl, T, h0, h9, q⟩ := h
    have hu := hu_of hr
    have cne : c ≠ t := T.ne
    obtain ⟨⟨a, l, s0, m, hd, ha, hl⟩, hc, hn⟩ := id T
    refine ⟨_, (pss_cut (ps_if (PW.pt (pw_and (pt_cmpR op_eq (pe_dget hu (pv 0) pe_str (fun _ _ => rfl)) pe_int (nomark _)) (pw_and1 (pt_cmpR op_lt (pe_dget hu (pv 0) pe_str (fun _ _ => rfl)) (pe_callB call_len_seq (by rfl) z.len (by decide +kernel) (pa_cons (pe_dget hu (pv 0) pe_str (fun _ _ => rfl)) pa_nil)) (nomark _))))) (pss_cons (ps_dput hu (pv 0) pe_str (pe_ix ix_list (pe_dget hu (pv 0) pe_str (fun _ _ => rfl)) (pe_dget hu (pv 0) pe_str (fun _ _ => rfl)) (fun _ _ => rfl)) rfl)
        (pss_one (ps_dput hu (pv 0) pe_str (pe_op op_add (pe_dget hu (pv 0) pe_str (fun _ _ => rfl)) pe_int) rfl))) pss_nil)
        (pss_cons (ps_if (pt_cmpR op_gt (pe_dget hu (pv 0) pe_str (fun _ _ => rfl)) pe_int (nomark _)) (pss_cons (ps_set (i := 2) sc_law_take.nd rfl (Or.inl rfl) (pe_op op_mod (pe_callTy call_int1 (by rfl) z.int (by decide +kernel) (pa_cons (pe_dget hu (pv 0) pe_str (fun _ _ => rfl)) pa_nil)) (pv 1)))
        (pss_cons (ps_dput hu (pv 0) pe_str (pe_op op_fdivW (pe_dget hu (pv 0) pe_str (fun _ _ => rfl)) (pv 1)) rfl)
        (pss_one (ps_ret (pv 2))))) pss_nil)
        (pss_cons (ps_dput hu (pv 0) pe_str (pe_op op_add (pe_dget hu (pv 0) pe_str (fun _ _ => rfl)) pe_int) rfl)
        (pss_cons (ps_set (i := 3) sc_law_take.nd rfl (Or.inl rfl) (pe_op op_mod (pe_callTy call_int1 (by rfl) z.int (by decide +kernel) (pa_cons (pe_op op_add (pe_op op_mul (pe_dget hu (pv 0) pe_str (fun _ _ => rfl)) pe_int) (pe_op op_mul (pe_dget hu (pv 0) pe_str (fun _ _ => rfl)) pe_int)) pa_nil)) pe_int))
        (pss_cons (ps_set (i := 3) sc_law_take.nd rfl (Or.inl rfl) (pe_op op_mod (pe_callTy call_int1 (by rfl) z.int (by decide +kernel) (pa_cons (pe_op op_add (pe_op op_add (pe_op op_mul (pv 3) (pv 3)) (pe_op op_mul (pe_dget hu (pv 0) pe_str (fun _ _ => rfl)) pe_int)) pe_int) pa_nil)) pe_int))
        (pss_one (ps_ret (pe_op op_mod (pe_callTy call_int1 (by rfl) z.int (by decide +kernel) (pa_cons (pv 3) pa_nil)) (pv 1))))))))), ?_⟩
    refine ⟨fun σ' H' => ∃ a l m : Int, σ' = [some (.ref t), some (.int many), none, none] ∧ H' t = some (.dK (tk c a l s0 m)) ∧ 0 ≤ a ∧ 0 ≤ l ∧ SameX t H H', ?_, ?_⟩
    · refine ⟨_, rfl, t, .int l, rfl, d_left hd, rfl, _, rfl, ?_⟩
      refine ite2 (fun e0 => ?_) (fun e0 => ?_)
      · refine ⟨_, rfl, t, .int a, rfl, d_at hd, _, rfl, t, .ref c, rfl, d_cells hd, c, _, rfl, .inl (SqL.of hc), _, _, rfl, rfl, _, rfl, ?_⟩
        refine ite2 (fun e1 => ?_) (fun e1 => ?_)
        · have e2 : a < (((cs.map V.int).length : Nat) : Int) := of_decide_eq_true e1
          rw [List.length_map] at e2
          have hk : a.toNat < cs.length := by omega
          have hat : atI (cs.map V.int) a = some (.int cs[a.toNat]) := at_of (j := a.toNat) (by omega) (by rw [List.getElem?_map, List.getElem?_eq_getElem hk]; rfl)
          have hx : 0 ≤ cs[a.toNat] := hn _ (List.getElem_mem hk)
          refine ⟨_, rfl, t, .ref c, rfl, d_cells hd, _, rfl, t, .int a, rfl, d_at hd, c, _, a, _, rfl, rfl, SqL.of hc, hat, _, rfl, t, _, rfl, p_left hd _, ?_⟩
          refine ⟨_, rfl, t, .int a, rfl, d_at upd_same, _, _, rfl, rfl, _, rfl, t, _, rfl, p_at upd_same _, ?_⟩
          exact ⟨a + 1, _, m, rfl, upd_same, by omega, hx, (SameX.upd _).trans (SameX.upd _)⟩
        · exact ⟨a, l, m, rfl, hd, ha, hl, SameX.refl _ _⟩
      · exact ⟨a, l, m, rfl, hd, ha, hl, SameX.refl _ _⟩
    · rintro σ1 H1 ⟨a, l, m, rfl, hd, ha, hl, S1⟩
      have hc1 : H1 c = some (.lst (cs.map V.int)) := S1 _ _ hc cne
      refine ⟨_, rfl, t, .int l, rfl, d_left hd, _, _, rfl, rfl, _, rfl, ?_⟩
      refine ite2 (fun e0 => ?_) (fun e0 => ?_)
      · refine ⟨_, rfl, t, .int l, rfl, d_left hd, .inl ⟨_, rfl, _, rfl, _, _, rfl, rfl, h0, ?_⟩⟩
        refine ⟨_, rfl, t, .int l, rfl, d_left hd, _, rfl, _, _, rfl, rfl, wide_div h0 h9 (by decide) (by decide), _, rfl, t, _, rfl, p_left hd _, ?_⟩
        refine ⟨_, rfl, ?_⟩
        refine q _ _ (Int.emod_nonneg _ (by omega)) (Int.emod_lt_of_pos _ h0) ⟨⟨a, _, s0, m, upd_same, ha, Int.ediv_nonneg hl (by omega)⟩, by rw [upd_ne cne]; exact hc1, hn⟩ (S1.trans (SameX.upd _))
      · refine ⟨_, rfl, t, .int m, rfl, d_salt hd, _, _, rfl, rfl, _, rfl, t, _, rfl, p_salt hd _, ?_⟩
        have hd2 : upd H1 t (.dK (tk c a l s0 (m + 1))) t = some (.dK (tk c a l s0 (m + 1))) := upd_same
        refine ⟨_, rfl, t, .int s0, rfl, d_seed hd2, _, _, rfl, rfl, .inr ⟨by decide, by decide⟩, _, rfl, t, .int _, rfl, d_salt hd2, _, _, rfl, rfl, .inr ⟨by decide, by decide⟩, _, _, rfl, rfl, .inl ⟨_, rfl, _, _, rfl, rfl, (by show (0 : Int) < 2147483647; decide), ?_⟩⟩
        generalize hmx : (s0 * 48271 + (m + 1) * 69621) % 2147483647 = mx
        have b1 : 0 ≤ mx := by rw [← hmx]; exact Int.emod_nonneg _ (by decide)
        have b2 : mx < 2147483647 := by rw [← hmx]; exact Int.emod_lt_of_pos _ (by decide)
        refine ⟨_, rfl, _, rfl, _, _, rfl, rfl, .inl ⟨by omega, by omega⟩, _, rfl, t, .int _, rfl, d_salt hd2, _, _, rfl, rfl, .inr ⟨by decide, by decide⟩, _, _, rfl, rfl, _, _, rfl, rfl, .inl ⟨_, rfl, _, _, rfl, rfl, (by show (0 : Int) < 2147483399; decide), ?_⟩⟩
        refine ⟨_, rfl, .inl ⟨_, rfl, _, rfl, _, _, rfl, rfl, h0, ?_⟩⟩
        exact q _ _ (Int.emod_nonneg _ (by omega)) (Int.emod_lt_of_pos _ h0) ⟨⟨a, l, s0, m + 1, hd2, ha, hl⟩, by rw [upd_ne cne]; exact hc1, hn⟩ (S1.trans (SameX.upd _)))

theorem lt_len : ("abcdefghijklmnopqrstuvwxyz" : Str).cps.toList.length = 26 := by decide +kernel
theorem lt_at : ∀ j : Nat, j < 26 → ("abcdefghijklmnopqrstuvwxyz" : Str).cps.toList[j]? = some (97 + j) := by decide +kernel
theorem lt_ok : ∀ ch ∈ ("abcdefghijklmnopqrstuvwxyz" : Str).cps.toList, 97 ≤ ch ∧ ch ≤ 122 := by decide +kernel
theorem sg_len : (("abcdefghijklmnopqrstuvwxyz" : Str) ++ ("0123456789_" : Str)).cps.toList.length = 37 := by decide +kernel
theorem sg_ok : ∀ ch ∈ (("abcdefghijklmnopqrstuvwxyz" : Str) ++ ("0123456789_" : Str)).cps.toList, nmCh ch := by decide +kernel
theorem ok_law_name {f : Addr} {fd : FuncData} (k : Kn K mg "_law_name" s_law_name ["tape", "used"] f fd) (z : Z mg)
    {g_law_take : Addr} {gd_law_take : FuncData} (c_law_take : Cal P w K mg base 1 "_law_take" ["tape", "many"] (spTake) g_law_take gd_law_take) :
    Cal P w K mg base 2 "_law_name" ["tape", "used"] (spName) f fd := k.cal (by
  refine k.F.ok sc_law_name (fun vs H Q E h => ?_) (fun cdv A outer s H vs Q E hr h => ?_)
  · obtain ⟨t, c, u, cs, us, rfl, _⟩ := h; rfl
  · obtain ⟨t, c, u, cs, us, rfl, T, hu0, huc, hl, q⟩ := h
    have hut : u ≠ t := T.notL hu0
    refine ⟨_, (pss_cons (ps_set (i := 2) sc_law_name.nd rfl (Or.inl rfl) pe_str)
        (pss_cons (ps_set (i := 3) sc_law_name.nd rfl (Or.inr rfl) (pe_op op_add_str (pv 2) pe_str))
        (pss_cons (ps_set (i := 4) sc_law_name.nd rfl (Or.inl rfl) (pe_call c_law_take.G (hr.mono (by decide)) (by rfl) c_law_take.m c_law_take.kp c_law_take.b .nil pass0 (pa_cons (pv 0) (pa_cons pe_int pa_nil))))
        (pss_cut (ps_if (pt_cmpR op_eq (pe_call c_law_take.G (hr.mono (by decide)) (by rfl) c_law_take.m c_law_take.kp c_law_take.b .nil pass0 (pa_cons (pv 0) (pa_cons pe_int pa_nil))) pe_int (nomark _)) (pss_one (ps_set (i := 4) sc_law_name.nd rfl (Or.inl rfl) pe_int)) pss_nil)
        (pss_cons (ps_set (i := 6) sc_law_name.nd rfl (Or.inl rfl) (pe_op op_add_str (pe_ix ix_str (pv 2) (pe_call c_law_take.G (hr.mono (by decide)) (by rfl) c_law_take.m c_law_take.kp c_law_take.b .nil pass0 (pa_cons (pv 0) (pa_cons pe_int pa_nil))) (fun _ _ => rfl)) (pe_join pe_str (pe_lc (own := [("k", 5)]) (g := gName 5) (tt := tYes) (by rfl) sc_law_name.nd (pi_range1 (by rfl) z.range (pa_cons (pv 4) pa_nil)) (blkOk_by (own := [("k", 5)]) (N := ["tape", "used", "letters", "signs", "size", "k", "name"]) (sc := defScope s_law_name) (by decide +kernel)) (fun _ _ _ _ _ => pg_name (i := 5) sc_law_name.nd rfl (Or.inl rfl)) (fun _ _ _ _ _ => pts_nil) (fun _ _ _ _ _ => (pe_ix ix_str (pv 3) (pe_call c_law_take.G (hr.mono (by decide)) (by rfl) c_law_take.m c_law_take.kp c_law_take.b .nil pass0 (pa_cons (pv 0) (pa_cons pe_int pa_nil))) (fun _ _ => rfl)))))))
        (pss_cons (ps_for PassesOwn.never rfl (pi_range1 (by rfl) z.range (pa_cons pe_int pa_nil)) (pg_name (i := 5) sc_law_name.nd rfl (Or.inl rfl))
        (pss_one (ps_if (pt_cmpR op_in_seq (pv 6) (pv 1) (by rfl)) (pss_one (ps_set (i := 6) sc_law_name.nd rfl (Or.inl rfl) (pe_op op_add_str (pe_ix ix_str (pv 2) (pv 5) (fun _ _ => rfl)) (pe_slice sl_str (pv 6) po_none (po_some pe_int))))) pss_nil)))
        (pss_cons (ps_expr (pe_bm PySem.F.plainAttrs_list PySem.F.slot_list_append PySem.F.type_list_append mt_append (pv 1) (pa_cons (pv 6) pa_nil)))
        (pss_one (ps_ret (pv 6)))))))))), ?_⟩
    refine ⟨_, rfl, _, _, rfl, rfl, (by decide +kernel), ?_⟩
    refine ⟨_, rfl, t, c, cs, 4, rfl, T, by decide, by decide +kernel, fun d H1 d0 d1 T1 s1 => ?_⟩
    refine ⟨fun σ' H' => ∃ n : Int, σ' = [some (.ref t), some (.ref u), some (.str "abcdefghijklmnopqrstuvwxyz"), some (.str (("abcdefghijklmnopqrstuvwxyz" : Str) ++ ("0123456789_" : Str))), some (.int n), none, none] ∧ 0 ≤ n ∧ n ≤ 19 ∧ TapeAt H' t c cs ∧ SameX t H H', ?_, ?_⟩
    · refine ⟨_, rfl, t, c, cs, 9, rfl, T1, by decide, by decide +kernel, fun e H2 e0 e1 T2 s2 => ⟨rfl, _, rfl, ?_⟩⟩
      refine ifD (fun _ => ?_) (fun _ => ?_)
      · exact ⟨19, rfl, by decide, by decide, T2, s1.trans s2⟩
      · exact ⟨d, rfl, d0, by omega, T2, s1.trans s2⟩
    rintro σ2 H2 ⟨n, rfl, n0, n1, T2, s2⟩
    refine ⟨_, rfl, _, rfl, t, c, cs, 26, rfl, T2, by decide, by decide +kernel, fun e H3 e0 e1 T3 s3 => ?_⟩
    obtain ⟨ch0, h1, h2⟩ := at_in (xs := ("abcdefghijklmnopqrstuvwxyz" : Str).cps.toList) e0 (by rw [lt_len]; exact e1)
    refine ⟨_, _, ch0, rfl, rfl, (by decide +kernel), h1, ?_⟩
    refine ⟨⟨_, rfl⟩, _, rfl, n, rfl, by omega, by omega, fun D hD => lc_range (lo := 0) (n := n.toNat) (fun i H' => ∃ chs : List Nat, H' D = some (.lst ((chs.map one).map V.str)) ∧ chs.length = i ∧ (∀ x ∈ chs, nmCh x) ∧ TapeAt H' t c cs ∧ SameX t H3 H') ?_ ?_ ?_⟩
    · exact ⟨[], upd_same, rfl, (by intro x hx; cases hx), T3.mono (same_new hD _), SameX.of (same_new hD _)⟩
    · rintro i H4 hi ⟨chs, hc, hl', hn', T4, s4⟩
      have hDt := T3.fresh hD
      refine ⟨rfl, _, rfl, _, rfl, t, c, cs, 37, rfl, T4, by decide, by decide +kernel, fun g H5 g0 g1 T5 s5 => ?_⟩
      obtain ⟨ch, k1, k2⟩ := at_in (xs := (("abcdefghijklmnopqrstuvwxyz" : Str) ++ ("0123456789_" : Str)).cps.toList) g0 (by rw [sg_len]; exact g1)
      refine ⟨_, _, _, rfl, rfl, (by decide +kernel), k1, _, s5 _ _ hc hDt.1, (by rw [List.length_map, List.length_map]; exact small1000 (by omega)), chs ++ [ch], ?_, by simp [hl'], ?_, T5.upd hDt.1 hDt.2, samex_upd hD _ (s4.trans s5)⟩
      · rw [upd_same, List.map_append, List.map_append]; rfl
      · intro y hy
        rcases List.mem_append.mp hy with hy | hy
        · exact hn' y hy
        · rw [List.mem_singleton.mp hy]; exact sg_ok _ k2
    rintro H4 ⟨chs, hc, hl', hn', T4, s4⟩
    have hsum : ((chs.map one).map (·.length)).sum + (chs.map one).length * ("" : Str).length ≤ 16777216 := by
      have e0 : ("" : Str).length = 0 := by decide +kernel
      rw [sum_ones, e0, Nat.mul_zero]; omega
    have S4 : SameX t H H4 := s2.trans (s3.trans s4)
    have hu4 : H4 u = some (.lst (us.map V.str)) := S4 _ _ hu0 hut
    refine ⟨_, D, _, rfl, rfl, .inl (SqL.of hc), hsum, _, _, rfl, rfl, (by rw [len_joined]; exact Nat.le_of_lt (small1000 (by show 1 + _ ≤ _; omega))), ?_⟩
    have nz : nameOk (one ch0 ++ Txt.join ("" : Str) (chs.map one)) := by
      have et : tl (one ch0 ++ Txt.join ("" : Str) (chs.map one)) = ch0 :: chs := by rw [tl_append, tl_joined]; rfl
      refine ⟨?_, ⟨ch0, chs, et, lt_ok _ h2⟩, ?_⟩
      · rw [len_tl, et, List.length_cons]; omega
      · rw [et]
        intro x hx
        rcases List.mem_cons.mp hx with rfl | hx
        · have := lt_ok _ h2; unfold nmCh; omega
        · exact hn' x hx
    refine ⟨26, rfl, by decide, by decide, for_range (lo := 0) (n := 26) (fun i σ H' => ∃ v z, σ = [some (.ref t), some (.ref u), some (.str "abcdefghijklmnopqrstuvwxyz"), some (.str (("abcdefghijklmnopqrstuvwxyz" : Str) ++ ("0123456789_" : Str))), some (.int n), v, some (.str z)] ∧ H' = H4 ∧ nameOk z ∧ (z ∉ us ∨ Hit us i)) ⟨none, _, rfl, rfl, nz, .inr ⟨[], rfl, List.nodup_nil, fun v hv => by cases hv⟩⟩ ?_ ?_⟩
    · rintro i σ H' hi ⟨v, z0, rfl, rfl, nk, hit⟩
      refine ⟨_, rfl, _, rfl, u, _, rfl, .inl (SqL.of hu4), rfl, flat_strs us, _, rfl, ?_⟩
      show if inV (.str z0) (us.map V.str) = true then _ else _
      rw [inV_str]
      refine ifD (fun hin => ?_) (fun hout => ⟨_, z0, rfl, rfl, nk, .inl hout⟩)
      have hk : atI ("abcdefghijklmnopqrstuvwxyz" : Str).cps.toList (0 + (i : Int)) = some (97 + i) := at_ofN (z := 0 + (i : Int)) (j := i) (by omega) (lt_at i hi)
      have l1 := cutS_length z0 none (some 19)
      refine ⟨_, rfl, _, rfl, _, _, _, rfl, rfl, (by decide +kernel), hk, _, rfl, _, rfl, _, rfl, Nat.le_of_lt (small1000 (by have := nk.1; omega)), _, _, rfl, rfl, Nat.le_of_lt (small1000 (by show 1 + _ ≤ _; have := nk.1; omega)), ?_⟩
      have et : tl (one (97 + i) ++ cutS z0 none (some 19)) = (97 + i) :: tl (cutS z0 none (some 19)) := by rw [tl_append]; rfl
      have l2 : (cutS z0 none (some 19)).length ≤ 19 := by
        show (((z0.cps.toList.drop (HT.sIx z0.length 0 none)).take (HT.sIx z0.length z0.length (some 19) - HT.sIx z0.length 0 none)).toArray).size ≤ 19
        rw [List.size_toArray, List.length_take]
        have : HT.sIx z0.length z0.length (some 19) = min 19 z0.length := HT.sIx_nat _ _ 19
        rw [this]
        omega
      refine ⟨_, _, rfl, rfl, ⟨?_, ⟨97 + i, _, et, by omega, by omega⟩, ?_⟩, ?_⟩
      · rw [len_app]; show 1 + _ ≤ _; omega
      · show ∀ ch ∈ tl (one (97 + i) ++ cutS z0 none (some 19)), nmCh ch
        rw [et]
        intro x hx
        rcases List.mem_cons.mp hx with rfl | hx
        · unfold nmCh; omega
        · exact nk.2.2 x (cutS_sub _ hx)
      · rcases hit with hit | hit
        · exact absurd hin hit
        · exact hit.step et
    rintro σ H' ⟨v, z0, rfl, rfl, nk, hit⟩
    have hz0 : z0 ∉ us := by
      rcases hit with hit | hit
      · exact hit
      · exact absurd (hit.no (by omega)) (fun z => z)
    refine ⟨_, rfl, .inl ⟨rfl, _, SqL.of hu4⟩, _, rfl, u, _, _, rfl, rfl, hu4, (by rw [List.length_map]; exact small1000 (by omega)), ?_⟩
    refine ⟨_, rfl, ?_⟩
    refine q z0 _ nk hz0 (T4.upd hut huc.symm) ?_ (SameXY.updY _ (SameXY.ofX S4))
    rw [upd_same, List.map_append]
    rfl)
theorem ok_law_table {f : Addr} {fd : FuncData} (k : Kn K mg "_law_table" s_law_table ["columns"] f fd) (z : Z mg) :
    Cal P w K mg base 1 "_law_table" ["columns"] (spTable) f fd := k.cal (by
  refine k.F.ok sc_law_table (fun vs H Q E h => ?_) (fun cdv A outer s H vs Q E hr h => ?_)
  · obtain ⟨L, cols, rfl, _⟩ := h; rfl
  · obtain ⟨L, cols, rfl, ⟨xs, hL, rL⟩, q⟩ := h
    refine ⟨_, (pss_one (ps_ret (pe_disp (pps_cons pe_str (pe_callTy call_list_of (by rfl) z.list (by decide +kernel) (pa_cons (pv 0) pa_nil)) (pps_cons pe_str (pe_lst pa_nil) (pps_cons pe_str (pe_lst pa_nil) (pps_cons pe_str (pe_lst pa_nil) pps_nil)))) (by rfl) (by rfl) (fun z => by cases z) (by decide)))), ?_⟩
    refine fun p hp => ?_
    have Lp : L ≠ p := ne_of_none hL hp
    refine ⟨_, rfl, L, xs, rfl, .inl (SqL.of (by rw [upd_ne Lp]; exact hL)), fun c hc => ⟨(by show 0 ≤ sizeLine; decide), fun k hk => ⟨(by show 0 ≤ sizeLine; decide), fun u hu => ⟨(by show 0 ≤ sizeLine; decide), fun r hr' => ?_⟩⟩⟩⟩
    have m1 := same_new hc (.lst xs)
    have m2 := same_new hk (.lst [])
    have m3 := same_new hu (.lst [])
    have m4 := same_new hr' (.lst [])
    have kp : (upd (upd (upd (upd (upd H p (.dK [])) c (.lst xs)) k (.lst [])) u (.lst [])) r (.lst [])) p = some (.dK []) := m4 _ _ (m3 _ _ (m2 _ _ (m1 _ _ upd_same)))
    have kc : (upd (upd (upd (upd (upd H p (.dK [])) c (.lst xs)) k (.lst [])) u (.lst [])) r (.lst [])) c = some (.lst xs) := m4 _ _ (m3 _ _ (m2 _ _ upd_same))
    have kk : (upd (upd (upd (upd (upd H p (.dK [])) c (.lst xs)) k (.lst [])) u (.lst [])) r (.lst [])) k = some (.lst []) := m4 _ _ (m3 _ _ upd_same)
    have ku : (upd (upd (upd (upd (upd H p (.dK [])) c (.lst xs)) k (.lst [])) u (.lst [])) r (.lst [])) u = some (.lst []) := m4 _ _ upd_same
    have kr : (upd (upd (upd (upd (upd H p (.dK [])) c (.lst xs)) k (.lst [])) u (.lst [])) r (.lst [])) r = some (.lst []) := upd_same
    have S5 : Same H (upd (upd (upd (upd (upd H p (.dK [])) c (.lst xs)) k (.lst [])) u (.lst [])) r (.lst [])) := (same_new hp _).trans (m1.trans (m2.trans (m3.trans m4)))
    have ckn : c ≠ k := ne_of_none upd_same hk
    have cun : c ≠ u := ne_of_none (m2 _ _ upd_same) hu
    have crn : c ≠ r := ne_of_none (m3 _ _ (m2 _ _ upd_same)) hr'
    have kun : k ≠ u := ne_of_none upd_same hu
    have krn : k ≠ r := ne_of_none (m3 _ _ upd_same) hr'
    have urn : u ≠ r := ne_of_none upd_same hr'
    have fr1 : H c = none := (same_new hp _).free hc
    have fr2 : H k = none := (same_new hp _).free (m1.free hk)
    have fr3 : H u = none := (same_new hp _).free (m1.free (m2.free hu))
    have fr4 : H r = none := (same_new hp _).free (m1.free (m2.free (m3.free hr')))
    generalize hH : (upd (upd (upd (upd (upd H p (.dK [])) c (.lst xs)) k (.lst [])) u (.lst [])) r (.lst [])) = H5 at *
    refine ⟨kp, descD ⟨p, c, k, u, r⟩, rfl, (by show 4 ≤ 15; decide), ?_⟩
    rw [merge_desc]
    have np : ∀ b, (∃ ys, H5 b = some (.lst ys)) → b ≠ p := fun b ⟨ys, e⟩ => ne_of e kp (by intro z; cases z)
    have kt : KeepT H (upd H5 p (.dK (descD ⟨p, c, k, u, r⟩))) := (KeepT.of S5).trans (KeepT.upd fun ys z => by rw [kp] at z; cases z)
    refine q ⟨p, c, k, u, r⟩ _ (fun n => ⟨upd_same, ⟨xs, by rw [upd_ne (np _ ⟨_, kc⟩)]; exact kc, rL.mono kt⟩, ⟨[], by rw [upd_ne (np _ ⟨_, kk⟩)]; exact kk, .nil⟩, by rw [upd_ne (np _ ⟨_, ku⟩)]; exact ku, ⟨[], by rw [upd_ne (np _ ⟨_, kr⟩)]; exact kr, .nil⟩⟩) (same_upd hp _ S5) hp ?_ ?_
    · intro b hb
      simp only [adL, List.mem_cons, List.not_mem_nil, or_false] at hb
      rcases hb with rfl | rfl | rfl | rfl
      · exact fr1
      · exact fr2
      · exact fr3
      · exact fr4
    · simp only [adL, List.nodup_cons, List.mem_cons, List.not_mem_nil, or_false, not_or, not_false_eq_true, List.nodup_nil, and_true]
      exact ⟨⟨ckn, cun, crn⟩, ⟨kun, krn⟩, urn⟩)
theorem ok_law_columns {f : Addr} {fd : FuncData} (k : Kn K mg "_law_columns" s_law_columns ["tape", "used", "many"] f fd) (z : Z mg)
    {g_law_take : Addr} {gd_law_take : FuncData} (c_law_take : Cal P w K mg base 1 "_law_take" ["tape", "many"] (spTake) g_law_take gd_law_take)
    {g_law_name : Addr} {gd_law_name : FuncData} (c_law_name : Cal P w K mg base 2 "_law_name" ["tape", "used"] (spName) g_law_name gd_law_name) :
    Cal P w K mg base 3 "_law_columns" ["tape", "used", "many"] (spColumns) f fd := k.cal (by
  refine k.F.ok sc_law_columns (fun vs H Q E h => ?_) (fun cdv A outer s H vs Q E hr h => ?_)
  · obtain ⟨t, c, u, cs, us, m, rfl, _⟩ := h; rfl
  · obtain ⟨t, c, u, cs, us, m, rfl, T, hu0, huc, m0, m8, hl, q⟩ := h
    have hut : u ≠ t := T.notL hu0
    refine ⟨_, (pss_cons (ps_set (i := 3) sc_law_columns.nd rfl (Or.inl rfl) (pe_lst (pa_cons pe_str (pa_cons pe_str pa_nil))))
        (pss_cons (ps_set (i := 4) sc_law_columns.nd rfl (Or.inl rfl) (pe_lst (pa_cons (pe_tup (pa_cons (pe_call c_law_name.G (hr.mono (by decide)) (by rfl) c_law_name.m c_law_name.kp c_law_name.b .nil pass0 (pa_cons (pv 0) (pa_cons (pv 1) pa_nil))) (pa_cons (pe_ix ix_list (pv 3) (pe_call c_law_take.G (hr.mono (by decide)) (by rfl) c_law_take.m c_law_take.kp c_law_take.b .nil pass0 (pa_cons (pv 0) (pa_cons pe_int pa_nil))) (fun _ _ => rfl)) (pa_cons pe_bl pa_nil)))) pa_nil)))
        (pss_cons (ps_for PassesOwn.never rfl (pi_range1 (by rfl) z.range (pa_cons (pv 2) pa_nil)) (pg_name (i := 5) sc_law_columns.nd rfl (Or.inl rfl))
        (pss_one (ps_expr (pe_bm PySem.F.plainAttrs_list PySem.F.slot_list_append PySem.F.type_list_append mt_append (pv 4) (pa_cons (pe_tup (pa_cons (pe_call c_law_name.G (hr.mono (by decide)) (by rfl) c_law_name.m c_law_name.kp c_law_name.b .nil pass0 (pa_cons (pv 0) (pa_cons (pv 1) pa_nil))) (pa_cons (pe_ix ix_list (pv 3) (pe_call c_law_take.G (hr.mono (by decide)) (by rfl) c_law_take.m c_law_take.kp c_law_take.b .nil pass0 (pa_cons (pv 0) (pa_cons pe_int pa_nil))) (fun _ _ => rfl)) (pa_cons (pe_cmpR op_eq (pe_call c_law_take.G (hr.mono (by decide)) (by rfl) c_law_take.m c_law_take.kp c_law_take.b .nil pass0 (pa_cons (pv 0) (pa_cons pe_int pa_nil))) pe_int (nomark _)) pa_nil)))) pa_nil)))))
        (pss_one (ps_ret (pv 4)))))), ?_⟩
    refine ⟨(by show 2 ≤ sizeLine; decide), fun KL hKL => ?_⟩
    have TK := T.mono (same_new hKL (.lst [.str "int", .str "text"]))
    have fK := T.fresh hKL
    have uK : u ≠ KL := ne_of_none hu0 hKL
    have kinds : ∀ {d : Int}, 0 ≤ d → d < 2 → ∃ k : Str, atI [V.str ("int" : Str), V.str ("text" : Str)] d = some (.str k) ∧ (k = ("int" : Str) ∨ k = ("text" : Str)) := fun d0 d1 => by
      obtain ⟨v, h1, h2⟩ := at_in (xs := [V.str ("int" : Str), V.str ("text" : Str)]) d0 (by simpa using d1)
      simp only [List.mem_cons, List.not_mem_nil, or_false] at h2
      rcases h2 with rfl | rfl
      · exact ⟨_, h1, .inl rfl⟩
      · exact ⟨_, h1, .inr rfl⟩
    refine ⟨_, rfl, _, rfl, t, c, u, cs, us, rfl, TK, (by rw [upd_ne uK]; exact hu0), huc, by omega, fun n1 H1 nk1 nf1 T1 hu1 s1 => ?_⟩
    have hK1 := s1 _ _ upd_same fK.1 uK.symm
    refine ⟨_, rfl, _, rfl, t, c, cs, 2, rfl, T1, by decide, by decide +kernel, fun d H2 d0 d1 T2 s2 => ?_⟩
    obtain ⟨k1, a1, b1⟩ := kinds d0 d1
    refine ⟨KL, _, d, _, rfl, rfl, SqL.of (s2 _ _ hK1 fK.1), a1, (by show 3 ≤ sizeLine; decide), fun p hp => ⟨(by show 1 ≤ sizeLine; decide), fun L hL => ?_⟩⟩
    have S2 : SameXY t u H H2 := (SameXY.of (same_new hKL _)).trans (s1.trans (SameXY.ofX s2))
    have hu2 : H2 u = some (.lst ((us ++ [n1]).map V.str)) := s2 _ _ hu1 hut
    have hK2 := s2 _ _ hK1 fK.1
    have e2 : Same H2 (upd (upd H2 p (.tup [.str n1, .str k1, .bl false])) L (.lst [.ref p])) := (same_new hp _).trans (same_new hL _)
    have hLt := (T2.mono (same_new hp (.tup [.str n1, .str k1, .bl false]))).fresh hL
    have uL : u ≠ L := ne_of_none (same_new hp _ _ _ hu2) hL
    have KLL : KL ≠ L := ne_of_none (same_new hp _ _ _ hK2) hL
    have hL2 : H2 L = none := by
      cases e : H2 L with
      | none => rfl
      | some o => have := same_new hp (.tup [.str n1, .str k1, .bl false]) _ _ e; rw [hL] at this; cases this
    have hL0 : H L = none := by
      cases e : H L with
      | none => rfl
      | some o => have := S2 _ _ e hLt.1 uL.symm; rw [hL2] at this; cases this
    refine ⟨_, rfl, m, rfl, by omega, by omega, for_range (lo := 0) (n := m.toNat) (fun i σ H' => ∃ v cols xs, σ = [some (.ref t), some (.ref u), some (.int m), some (.ref KL), some (.ref L), v] ∧ H' L = some (.lst xs) ∧ TpL H' xs (cols.map colD) ∧ cols.length = i + 1 ∧ ColsOk us cols ∧ TapeAt H' t c cs ∧ H' u = some (.lst ((us ++ colNs cols).map V.str)) ∧ H' KL = some (.lst [.str "int", .str "text"]) ∧ SameXY t u H H') ?_ ?_ ?_⟩
    · refine ⟨none, [⟨n1, k1, false⟩], [.ref p], rfl, upd_same, .cons (col_mk (by rw [upd_ne (ne_of_none upd_same hL)]; exact upd_same)) .nil, rfl, ⟨?_, ?_, ?_, ?_⟩, T2.mono e2, e2 _ _ hu2, e2 _ _ hK2, S2.trans (SameXY.of e2)⟩
      · show ([n1] : List Str).Nodup; simp
      · intro n hn
        have : n = n1 := by simpa [colNs] using hn
        subst this
        exact ⟨nf1, nk1⟩
      · intro cc hc
        have : cc = ⟨n1, k1, false⟩ := by simpa using hc
        subst this
        exact b1
      · intro cc hc
        have : cc = ⟨n1, k1, false⟩ := by simpa using hc.symm
        subst this
        rfl
    · rintro i σ H3 hi ⟨v, cols, xs, rfl, h3, r3, l3, C3, T3, u3, K3, s3⟩
      have hlen : (us ++ colNs cols).length ≤ 25 := by rw [List.length_append]; unfold colNs; rw [List.length_map]; omega
      refine ⟨_, rfl, .inl ⟨rfl, _, SqL.of h3⟩, ?_⟩
      refine ⟨_, rfl, _, rfl, t, c, u, cs, us ++ colNs cols, rfl, T3, u3, huc, hlen, fun n4 H4 nk4 nf4 T4 hu4 s4 => ?_⟩
      have h4 := s4 _ _ h3 (T3.notL h3) uL.symm
      have K4 := s4 _ _ K3 fK.1 uK.symm
      have r4 := r3.mono (KeepT.ofXY T3 u3 s4)
      refine ⟨_, rfl, _, rfl, t, c, cs, 2, rfl, T4, by decide, by decide +kernel, fun d H5 d0 d1 T5 s5 => ?_⟩
      obtain ⟨k5, a5, b5⟩ := kinds d0 d1
      have K5 := s5 _ _ K4 fK.1
      refine ⟨KL, _, d, _, rfl, rfl, SqL.of K5, a5, ?_⟩
      refine ⟨_, rfl, t, c, cs, 2, rfl, T5, by decide, by decide +kernel, fun e H6 e0 e1 T6 s6 => ?_⟩
      have s46 : SameXY t u H3 H6 := s4.trans ((SameXY.ofX s5).trans (SameXY.ofX s6))
      have h6 := s6 _ _ (s5 _ _ h4 (T3.notL h3)) (T3.notL h3)
      have u6 := s6 _ _ (s5 _ _ hu4 hut) hut
      have K6 := s6 _ _ K5 fK.1
      have r6 := (r4.mono (KeepT.ofX T4 s5)).mono (KeepT.ofX T5 s6)
      refine ⟨rfl, (by show 3 ≤ sizeLine; decide), fun p6 hp6 => ?_⟩
      have m7 := same_new hp6 (.tup [.str n4, .str k5, .bl (decide (V.int e = V.int 1))])
      have nL : L ≠ p6 := ne_of_none h6 hp6
      refine ⟨L, xs, _, rfl, rfl, m7 _ _ h6, (by rw [r3.length, List.length_map]; exact small1000 (by omega)), ?_⟩
      have ku : KeepT (upd H6 p6 (.tup [.str n4, .str k5, .bl (decide (V.int e = V.int 1))])) (upd (upd H6 p6 (.tup [.str n4, .str k5, .bl (decide (V.int e = V.int 1))])) L (.lst (xs ++ [.ref p6]))) := KeepT.upd (fun ys z => by rw [m7 _ _ h6] at z; cases z)
      refine ⟨_, cols ++ [⟨n4, k5, decide (V.int e = V.int 1)⟩], xs ++ [.ref p6], rfl, upd_same, ?_, by simp [l3], ⟨?_, ?_, ?_, ?_⟩, (T6.mono m7).upd (T3.notL h3) (fun z => by subst z; exact hLt.2 rfl), ?_, ?_, ?_⟩
      · rw [List.map_append]
        exact TpL.snoc ((r6.mono (KeepT.of m7)).mono ku) (col_mk (ku _ _ upd_same))
      · unfold colNs
        rw [List.map_append]
        refine List.nodup_append.mpr ⟨C3.nd, by simp, ?_⟩
        intro a ha b hb
        have : b = n4 := by simpa using hb
        subst this
        rintro rfl
        exact nf4 (List.mem_append.mpr (.inr ha))
      · intro n hn
        unfold colNs at hn
        rw [List.map_append] at hn
        rcases List.mem_append.mp hn with hn | hn
        · exact C3.fr n hn
        · have : n = n4 := by simpa using hn
          subst this
          exact ⟨fun z => nf4 (List.mem_append.mpr (.inl z)), nk4⟩
      · intro cc hc
        rcases List.mem_append.mp hc with hc | hc
        · exact C3.kd cc hc
        · have : cc = ⟨n4, k5, decide (V.int e = V.int 1)⟩ := by simpa using hc
          subst this
          exact b5
      · intro cc hc
        rw [List.getElem?_append_left (by omega)] at hc
        exact C3.hd cc hc
      · have ec : colNs (cols ++ [⟨n4, k5, decide (V.int e = V.int 1)⟩]) = colNs cols ++ [n4] := by unfold colNs; rw [List.map_append]; rfl
        rw [upd_ne uL, m7 _ _ u6, ec, List.append_assoc]
      · rw [upd_ne KLL]; exact m7 _ _ K6
      · exact samexy_upd hL0 _ (s3.trans (s46.trans (SameXY.of m7)))
    · rintro σ H3 ⟨v, cols, xs, rfl, h3, r3, l3, C3, T3, u3, K3, s3⟩
      exact ⟨_, rfl, q L cols xs H3 hL0 h3 r3 (by omega) C3 T3 u3 s3⟩)
theorem ok_law_names {f : Addr} {fd : FuncData} (k : Kn K mg "_law_names" s_law_names ["columns"] f fd) (z : Z mg) :
    Cal P w K mg base 1 "_law_names" ["columns"] (spNames) f fd := k.cal (by
  refine k.F.ok sc_law_names (fun vs H Q E h => ?_) (fun cdv A outer s H vs Q E hr h => ?_)
  · obtain ⟨L, cols, rfl, _⟩ := h; rfl
  · obtain ⟨L, cols, rfl, C, hl, q⟩ := h
    refine ⟨_, (pss_one (ps_ret (pe_lc (own := [("column", 1)]) (g := gName 1) (tt := tYes) (by rfl) sc_law_names.nd (pi_list (pv 0)) (blkOk_by (own := [("column", 1)]) (N := ["columns", "column"]) (sc := defScope s_law_names) (by decide +kernel)) (fun _ _ _ _ _ => pg_name (i := 1) sc_law_names.nd rfl (Or.inl rfl)) (fun _ _ _ _ _ => pts_nil) (fun _ _ _ _ _ => (pe_ix (r := rIxT K) ix_tup (pv 1) pe_int (fun _ _ => rfl)))))), ?_⟩
    obtain ⟨xs, h1, h2⟩ := id C
    have hx : xs.length = cols.length := by rw [h2.length, List.length_map]
    refine ⟨_, rfl, L, rfl, ⟨_, SqL.of h1⟩, fun D hD => lc_list (K := K) (a := L) (xs := xs) (fun i H' => H' D = some (.lst (((colNs cols).take i).map V.str)) ∧ Same H H') ⟨upd_same, same_new hD _⟩ (fun i H' _ hh => SqL.of (hh.2 _ _ h1)) ?_ ?_⟩
    · rintro i x H1 hi ⟨hD1, s1⟩
      have hil : i < cols.length := by rw [← hx]; exact (List.getElem?_eq_some_iff.mp hi).1
      obtain ⟨xs', a, k1, k2, k3⟩ := C.get (List.getElem?_eq_getElem hil)
      rw [h1] at k1
      cases k1
      rw [hi] at k2
      cases k2
      refine ⟨rfl, _, rfl, a, _, 0, _, rfl, rfl, SqT.of (s1 _ _ k3), atI_nat (j := 0) rfl, _, hD1, (by rw [List.length_map, List.length_take]; exact small1000 (by omega)), ?_, same_upd hD _ s1⟩
      rw [upd_same, List.take_add_one]
      have : (colNs cols)[i]? = some cols[i].n := by unfold colNs; rw [List.getElem?_map, List.getElem?_eq_getElem hil]; rfl
      rw [this]
      simp
    · rintro H1 ⟨hD1, s1⟩
      have : (colNs cols).take xs.length = colNs cols := List.take_of_length_le (by unfold colNs; rw [List.length_map]; omega)
      rw [this] at hD1
      exact q D H1 hD s1 hD1)
theorem ok_law_integer {f : Addr} {fd : FuncData} (k : Kn K mg "_law_integer" s_law_integer ["tape"] f fd) (z : Z mg)
    {g_law_take : Addr} {gd_law_take : FuncData} (c_law_take : Cal P w K mg base 1 "_law_take" ["tape", "many"] (spTake) g_law_take gd_law_take) :
    Cal P w K mg base 2 "_law_integer" ["tape"] (spDraw (isInt (-999999999) 999999999)) f fd := k.cal (by
  refine k.F.ok sc_law_integer (fun vs H Q E h => ?_) (fun cdv A outer s H vs Q E hr h => ?_)
  · obtain ⟨t, c, cs, rfl, _⟩ := h; rfl
  · obtain ⟨t, c, cs, rfl, T, q⟩ := h
    refine ⟨_, (pss_cons (ps_set (i := 1) sc_law_integer.nd rfl (Or.inl rfl) (pe_call c_law_take.G (hr.mono (by decide)) (by rfl) c_law_take.m c_law_take.kp c_law_take.b .nil pass0 (pa_cons (pv 0) (pa_cons pe_int pa_nil))))
        (pss_cons (ps_if (pt_cmpR op_eq (pv 1) pe_int (nomark _)) (pss_one (ps_ret (pe_op op_sub (pe_call c_law_take.G (hr.mono (by decide)) (by rfl) c_law_take.m c_law_take.kp c_law_take.b .nil pass0 (pa_cons (pv 0) (pa_cons pe_int pa_nil))) pe_int))) pss_nil)
        (pss_cons (ps_if (pt_cmpR op_eq (pv 1) pe_int (nomark _)) (pss_one (ps_ret (pe_ix ix_list (pe_lst (pa_cons pe_int (pa_cons (pe_un un_neg pe_int) (pa_cons pe_int (pa_cons pe_int pa_nil))))) (pe_call c_law_take.G (hr.mono (by decide)) (by rfl) c_law_take.m c_law_take.kp c_law_take.b .nil pass0 (pa_cons (pv 0) (pa_cons pe_int pa_nil))) (fun _ _ => rfl)))) pss_nil)
        (pss_cons (ps_if (pt_cmpR op_eq (pv 1) pe_int (nomark _)) (pss_one (ps_ret (pe_un un_neg (pe_call c_law_take.G (hr.mono (by decide)) (by rfl) c_law_take.m c_law_take.kp c_law_take.b .nil pass0 (pa_cons (pv 0) (pa_cons pe_int pa_nil)))))) pss_nil)
        (pss_one (ps_ret (pe_call c_law_take.G (hr.mono (by decide)) (by rfl) c_law_take.m c_law_take.kp c_law_take.b .nil pass0 (pa_cons (pv 0) (pa_cons pe_int pa_nil))))))))), ?_⟩
    refine ⟨_, rfl, t, c, cs, 8, rfl, T, by decide, by decide +kernel, fun d H1 d0 d1 T1 s1 => ?_⟩
    refine ⟨_, rfl, rfl, _, rfl, ?_⟩
    refine ifD (fun _ => ?_) (fun _ => ?_)
    · refine ⟨_, rfl, t, c, cs, 1999999999, rfl, T1, by decide, by decide +kernel, fun e H2 e0 e1 T2 s2 => ⟨_, _, rfl, rfl, ?_⟩⟩
      exact q _ H2 ⟨_, by omega, by omega, rfl⟩ T2 (s1.trans s2)
    refine ⟨_, rfl, rfl, _, rfl, ?_⟩
    refine ifD (fun _ => ?_) (fun _ => ?_)
    · refine ⟨_, rfl, (by show 4 ≤ sizeLine; decide), fun L hL => ?_⟩
      refine ⟨_, rfl, t, c, cs, 4, rfl, T1.mono (same_new hL _), by decide, by decide +kernel, fun e H2 e0 e1 T2 s2 => ?_⟩
      obtain ⟨v, h1, h2⟩ := at_in (xs := [V.int 999999999, V.int (-999999999), V.int 999999998, V.int 0]) e0 (by simpa using e1)
      obtain ⟨n, rfl, n0, n1⟩ : ∃ n : Int, v = V.int n ∧ -999999999 ≤ n ∧ n ≤ 999999999 := by
        simp only [List.mem_cons, List.not_mem_nil, or_false] at h2
        rcases h2 with rfl | rfl | rfl | rfl <;> exact ⟨_, rfl, by decide, by decide⟩
      refine ⟨L, _, e, _, rfl, rfl, SqL.of (s2 _ _ upd_same (T1.fresh hL).1), h1, ?_⟩
      exact q _ H2 ⟨n, n0, n1, rfl⟩ T2 (s1.trans ((SameX.of (same_new hL _)).trans s2))
    refine ⟨_, rfl, rfl, _, rfl, ?_⟩
    refine ifD (fun _ => ?_) (fun _ => ?_)
    · refine ⟨_, rfl, t, c, cs, 12, rfl, T1, by decide, by decide +kernel, fun e H2 e0 e1 T2 s2 => ⟨_, rfl, ?_⟩⟩
      exact q _ H2 ⟨_, by omega, by omega, rfl⟩ T2 (s1.trans s2)
    · refine ⟨_, rfl, t, c, cs, 6, rfl, T1, by decide, by decide +kernel, fun e H2 e0 e1 T2 s2 => ?_⟩
      exact q _ H2 ⟨_, by omega, by omega, rfl⟩ T2 (s1.trans s2))

theorem chars_len : (((" !\"#$&'()*+,-./0123456789:;<=>?@ABCDEFGHIJKLMNOPQRSTUVWXYZ[\\]^" : Str) ++ ("_`abcdefghijklmnopqrstuvwxyz{|}~" : Str)).cps.toList).length = 94 := by decide +kernel
theorem chars_ok : ∀ c ∈ ((" !\"#$&'()*+,-./0123456789:;<=>?@ABCDEFGHIJKLMNOPQRSTUVWXYZ[\\]^" : Str) ++ ("_`abcdefghijklmnopqrstuvwxyz{|}~" : Str)).cps.toList, chOk c := by decide +kernel
theorem few_len : ("ab -07" : Str).cps.toList.length = 6 := by decide +kernel
theorem few_ok : ∀ c ∈ ("ab -07" : Str).cps.toList, chOk c := by decide +kernel
theorem ok_law_char {f : Addr} {fd : FuncData} (k : Kn K mg "_law_char" s_law_char ["tape"] f fd) (z : Z mg)
    {g_law_take : Addr} {gd_law_take : FuncData} (c_law_take : Cal P w K mg base 1 "_law_take" ["tape", "many"] (spTake) g_law_take gd_law_take) :
    Cal P w K mg base 2 "_law_char" ["tape"] (spDraw isChar) f fd := k.cal (by
  refine k.F.ok sc_law_char (fun vs H Q E h => ?_) (fun cdv A outer s H vs Q E hr h => ?_)
  · obtain ⟨t, c, cs, rfl, _⟩ := h; rfl
  · obtain ⟨t, c, cs, rfl, T, q⟩ := h
    refine ⟨_, (pss_cons (ps_set (i := 1) sc_law_char.nd rfl (Or.inl rfl) pe_str)
        (pss_cons (ps_set (i := 1) sc_law_char.nd rfl (Or.inl rfl) (pe_op op_add_str (pv 1) pe_str))
        (pss_cons (ps_if (pt_cmpR op_eq (pe_call c_law_take.G (hr.mono (by decide)) (by rfl) c_law_take.m c_law_take.kp c_law_take.b .nil pass0 (pa_cons (pv 0) (pa_cons pe_int pa_nil))) pe_int (nomark _)) (pss_one (ps_ret (pe_ix ix_str (pv 1) (pe_call c_law_take.G (hr.mono (by decide)) (by rfl) c_law_take.m c_law_take.kp c_law_take.b .nil pass0 (pa_cons (pv 0) (pa_cons pe_int pa_nil))) (fun _ _ => rfl)))) pss_nil)
        (pss_one (ps_ret (pe_ix ix_str pe_str (pe_call c_law_take.G (hr.mono (by decide)) (by rfl) c_law_take.m c_law_take.kp c_law_take.b .nil pass0 (pa_cons (pv 0) (pa_cons pe_int pa_nil))) (fun _ _ => rfl))))))), ?_⟩
    refine ⟨_, rfl, _, _, rfl, rfl, (by decide +kernel), ?_⟩
    refine ⟨_, rfl, t, c, cs, 3, rfl, T, by decide, by decide +kernel, fun d H1 d0 d1 T1 s1 => ⟨rfl, _, rfl, ?_⟩⟩
    refine ite2 (fun _ => ?_) (fun _ => ?_)
    · refine ⟨_, rfl, _, rfl, t, c, cs, 94, rfl, T1, by decide, by decide +kernel, fun e H2 e0 e1 T2 s2 => ?_⟩
      obtain ⟨ch, h1, h2⟩ := at_in (xs := ((" !\"#$&'()*+,-./0123456789:;<=>?@ABCDEFGHIJKLMNOPQRSTUVWXYZ[\\]^" : Str) ++ ("_`abcdefghijklmnopqrstuvwxyz{|}~" : Str)).cps.toList) e0 (by rw [chars_len]; exact e1)
      exact ⟨_, _, _, rfl, rfl, (by decide +kernel), h1, q _ H2 ⟨ch, chars_ok _ h2, rfl⟩ T2 (s1.trans s2)⟩
    · refine ⟨_, rfl, t, c, cs, 6, rfl, T1, by decide, by decide +kernel, fun e H2 e0 e1 T2 s2 => ?_⟩
      obtain ⟨ch, h1, h2⟩ := at_in (xs := ("ab -07" : Str).cps.toList) e0 (by rw [few_len]; exact e1)
      exact ⟨_, _, _, rfl, rfl, (by decide +kernel), h1, q _ H2 ⟨ch, few_ok _ h2, rfl⟩ T2 (s1.trans s2)⟩)
theorem ok_law_text {f : Addr} {fd : FuncData} (k : Kn K mg "_law_text" s_law_text ["tape"] f fd) (z : Z mg)
    {g_law_take : Addr} {gd_law_take : FuncData} (c_law_take : Cal P w K mg base 1 "_law_take" ["tape", "many"] (spTake) g_law_take gd_law_take)
    {g_law_char : Addr} {gd_law_char : FuncData} (c_law_char : Cal P w K mg base 2 "_law_char" ["tape"] (spDraw isChar) g_law_char gd_law_char) :
    Cal P w K mg base 3 "_law_text" ["tape"] (spDraw (isText 30)) f fd := k.cal (by
  refine k.F.ok sc_law_text (fun vs H Q E h => ?_) (fun cdv A outer s H vs Q E hr h => ?_)
  · obtain ⟨t, c, cs, rfl, _⟩ := h; rfl
  · obtain ⟨t, c, cs, rfl, T, q⟩ := h
    have ht : ∃ o, H t = some o := by obtain ⟨_, _, _, _, e, _⟩ := T.dk; exact ⟨_, e⟩
    refine ⟨_, (pss_cons (ps_set (i := 1) sc_law_text.nd rfl (Or.inl rfl) (pe_call c_law_take.G (hr.mono (by decide)) (by rfl) c_law_take.m c_law_take.kp c_law_take.b .nil pass0 (pa_cons (pv 0) (pa_cons pe_int pa_nil))))
        (pss_cut (ps_if (pt_cmpR op_eq (pe_call c_law_take.G (hr.mono (by decide)) (by rfl) c_law_take.m c_law_take.kp c_law_take.b .nil pass0 (pa_cons (pv 0) (pa_cons pe_int pa_nil))) pe_int (nomark _)) (pss_one (ps_set (i := 1) sc_law_text.nd rfl (Or.inl rfl) (pe_op op_add pe_int (pe_call c_law_take.G (hr.mono (by decide)) (by rfl) c_law_take.m c_law_take.kp c_law_take.b .nil pass0 (pa_cons (pv 0) (pa_cons pe_int pa_nil)))))) pss_nil)
        (pss_one (ps_ret (pe_join pe_str (pe_lc (own := [("k", 2)]) (g := gName 2) (tt := tYes) (by rfl) sc_law_text.nd (pi_range1 (by rfl) z.range (pa_cons (pv 1) pa_nil)) (blkOk_by (own := [("k", 2)]) (N := ["tape", "size", "k"]) (sc := defScope s_law_text) (by decide +kernel)) (fun _ _ _ _ _ => pg_name (i := 2) sc_law_text.nd rfl (Or.inl rfl)) (fun _ _ _ _ _ => pts_nil) (fun _ _ _ _ _ => (pe_call c_law_char.G (hr.mono (by decide)) (by rfl) c_law_char.m c_law_char.kp c_law_char.b .nil pass0 (pa_cons (pv 0) pa_nil))))))))), ?_⟩
    refine ⟨_, rfl, t, c, cs, 6, rfl, T, by decide, by decide +kernel, fun d H1 d0 d1 T1 s1 => ?_⟩
    refine ⟨fun σ H' => ∃ n : Int, σ = [some (.ref t), some (.int n), none] ∧ 0 ≤ n ∧ n ≤ 30 ∧ TapeAt H' t c cs ∧ SameX t H H', ?_, ?_⟩
    · refine ⟨_, rfl, t, c, cs, 12, rfl, T1, by decide, by decide +kernel, fun e H2 e0 e1 T2 s2 => ⟨rfl, _, rfl, ?_⟩⟩
      refine ite2 (fun _ => ?_) (fun _ => ?_)
      · refine ⟨_, rfl, t, c, cs, 6, rfl, T2, by decide, by decide +kernel, fun g H3 g0 g1 T3 s3 => ⟨_, _, rfl, rfl, _, rfl, by omega, by omega, T3, s1.trans (s2.trans s3)⟩⟩
      · exact ⟨d, rfl, d0, by omega, T2, s1.trans s2⟩
    · rintro σ H2 ⟨n, rfl, n0, n1, T2, s2⟩
      refine ⟨⟨_, rfl⟩, _, rfl, n, rfl, by omega, by omega, fun D hD => lc_range (lo := 0) (n := n.toNat) (fun i H' => ∃ chs : List Nat, H' D = some (.lst ((chs.map one).map V.str)) ∧ chs.length = i ∧ (∀ x ∈ chs, chOk x) ∧ TapeAt H' t c cs ∧ SameX t H H' ∧ (∀ b o, H2 b = some o → b ≠ t → H' b = some o)) ?_ ?_ ?_⟩
      · exact ⟨[], upd_same, rfl, (by intro x hx; cases hx), T2.mono (same_new hD _), s2.trans (SameX.of (same_new hD _)), fun b o e _ => same_new hD _ b o e⟩
      · rintro i H3 hi ⟨chs, hc, hl, hn, T3, s3, s3'⟩
        have hDt : D ≠ t := by
          obtain ⟨_, _, _, _, e, _⟩ := T2.dk
          intro z; subst z; rw [hD] at e; cases e
        refine ⟨rfl, _, rfl, t, c, cs, rfl, T3, fun v H4 ⟨ch, hch, e⟩ T4 s4 => ?_⟩
        subst e
        refine ⟨_, s4 _ _ hc hDt, (by rw [List.length_map, List.length_map]; exact small1000 (by omega)), chs ++ [ch], ?_, by simp [hl], ?_, ?_, ?_, ?_⟩
        · rw [upd_same, List.map_append, List.map_append]; rfl
        · intro y hy
          rcases List.mem_append.mp hy with hy | hy
          · exact hn y hy
          · rw [List.mem_singleton.mp hy]; exact hch
        · obtain ⟨a, l, s, m, h1, h2, h3⟩ := T4.dk
          have hDc : c ≠ D := by
            intro z; subst z
            have h5 := T2.ls
            rw [hD] at h5; cases h5
          exact ⟨⟨a, l, s, m, by rw [upd_ne hDt.symm]; exact h1, h2, h3⟩, by rw [upd_ne hDc]; exact T4.ls, T4.nn⟩
        · intro b o e ne
          have hb : b ≠ D := by
            intro z; subst z
            have := s2 _ _ e ne
            rw [hD] at this; cases this
          rw [upd_ne hb]; exact s4 _ _ (s3 _ _ e ne) ne
        · intro b o e ne
          rw [upd_ne (ne_of_none e hD)]; exact s4 _ _ (s3' _ _ e ne) ne
      · rintro H3 ⟨chs, hc, hl, hn, T3, s3, _⟩
        have hsum : ((chs.map one).map (·.length)).sum + (chs.map one).length * ("" : Str).length ≤ 16777216 := by
          have e0 : ("" : Str).length = 0 := by decide +kernel
          rw [sum_ones, e0, Nat.mul_zero]; omega
        refine ⟨_, D, _, rfl, rfl, .inl (SqL.of hc), hsum, ?_⟩
        exact q _ H3 ⟨_, by rw [len_joined]; omega, by rw [tl_joined]; exact hn, rfl⟩ T3 s3)
theorem ok_law_value {f : Addr} {fd : FuncData} (k : Kn K mg "_law_value" s_law_value ["tape", "kind", "nullable"] f fd) (z : Z mg)
    {g_law_take : Addr} {gd_law_take : FuncData} (c_law_take : Cal P w K mg base 1 "_law_take" ["tape", "many"] (spTake) g_law_take gd_law_take)
    {g_law_integer : Addr} {gd_law_integer : FuncData} (c_law_integer : Cal P w K mg base 2 "_law_integer" ["tape"] (spDraw (isInt (-999999999) 999999999)) g_law_integer gd_law_integer)
    {g_law_text : Addr} {gd_law_text : FuncData} (c_law_text : Cal P w K mg base 3 "_law_text" ["tape"] (spDraw (isText 30)) g_law_text gd_law_text) :
    Cal P w K mg base 4 "_law_value" ["tape", "kind", "nullable"] (spVal) f fd := k.cal (by
  refine k.F.ok sc_law_value (fun vs H Q E h => ?_) (fun cdv A outer s H vs Q E hr h => ?_)
  · obtain ⟨t, c, cs, kk, b, rfl, _⟩ := h; rfl
  · obtain ⟨t, c, cs, kk, b, rfl, T, q⟩ := h
    refine ⟨_, (pss_cut (ps_if (PW.pt (pw_and (pt_val (pv 2)) (pw_and1 (pt_cmpR op_eq (pe_call c_law_take.G (hr.mono (by decide)) (by rfl) c_law_take.m c_law_take.kp c_law_take.b .nil pass0 (pa_cons (pv 0) (pa_cons pe_int pa_nil))) pe_int (nomark _))))) (pss_one (ps_ret pe_non)) pss_nil)
        (pss_cons (ps_if (pt_cmpR op_eq (pv 1) pe_str (nomark _)) (pss_one (ps_ret (pe_call c_law_integer.G (hr.mono (by decide)) (by rfl) c_law_integer.m c_law_integer.kp c_law_integer.b .nil pass0 (pa_cons (pv 0) pa_nil)))) pss_nil)
        (pss_cons (ps_if (pt_cmpR op_eq (pe_call c_law_take.G (hr.mono (by decide)) (by rfl) c_law_take.m c_law_take.kp c_law_take.b .nil pass0 (pa_cons (pv 0) (pa_cons pe_int pa_nil))) pe_int (nomark _)) (pss_one (ps_ret (pe_op op_add_str (pe_ix ix_list (pe_lst (pa_cons pe_str (pa_cons pe_str (pa_cons pe_str (pa_cons pe_str pa_nil))))) (pe_call c_law_take.G (hr.mono (by decide)) (by rfl) c_law_take.m c_law_take.kp c_law_take.b .nil pass0 (pa_cons (pv 0) (pa_cons pe_int pa_nil))) (fun _ _ => rfl)) (pe_callTy call_str_int (by rfl) z.str (by decide +kernel) (pa_cons (pe_call c_law_integer.G (hr.mono (by decide)) (by rfl) c_law_integer.m c_law_integer.kp c_law_integer.b .nil pass0 (pa_cons (pv 0) pa_nil)) pa_nil))))) pss_nil)
        (pss_one (ps_ret (pe_call c_law_text.G (hr.mono (by decide)) (by rfl) c_law_text.m c_law_text.kp c_law_text.b .nil pass0 (pa_cons (pv 0) pa_nil))))))), ?_⟩
    refine ⟨fun σ' H' => σ' = [some (.ref t), some (.str kk), some (.bl b)] ∧ TapeAt H' t c cs ∧ SameX t H H', ?_, ?_⟩
    · refine ⟨_, rfl, b, rfl, ?_⟩
      cases b with
      | false => exact iteF ⟨rfl, T, SameX.refl _ _⟩
      | true =>
        refine iteT ⟨_, rfl, t, c, cs, 4, rfl, T, by decide, by decide +kernel, fun d H1 d0 d1 T1 s1 => ⟨rfl, _, rfl, ?_⟩⟩
        exact ifD (fun _ => q _ H1 (.inl ⟨rfl, rfl⟩) T1 s1) (fun _ => ⟨rfl, T1, s1⟩)
    rintro σ1 H1 ⟨rfl, T1, s1⟩
    refine ⟨_, rfl, rfl, _, rfl, ?_⟩
    refine ifD (fun hk => ?_) (fun hk => ?_)
    · refine ⟨_, rfl, t, c, cs, rfl, T1, fun v H2 hv T2 s2 => ?_⟩
      obtain ⟨i, i0, i1, rfl⟩ := hv
      exact q _ H2 (.inr (.inl ⟨V.str.inj hk, i, rfl, i0, i1⟩)) T2 (s1.trans s2)
    have hk' : kk ≠ ("int" : Str) := fun z => hk (congrArg V.str z)
    refine ⟨_, rfl, t, c, cs, 3, rfl, T1, by decide, by decide +kernel, fun d H2 d0 d1 T2 s2 => ⟨rfl, _, rfl, ?_⟩⟩
    refine ifD (fun _ => ?_) (fun _ => ?_)
    · refine ⟨(by show 4 ≤ sizeLine; decide), fun L hL => ?_⟩
      refine ⟨_, rfl, t, c, cs, 4, rfl, T2.mono (same_new hL _), by decide, by decide +kernel, fun e H3 e0 e1 T3 s3 => ?_⟩
      obtain ⟨v, h1, h2⟩ := at_in (xs := [V.str ("" : Str), V.str ("0" : Str), V.str ("-" : Str), V.str ("+" : Str)]) e0 (by simpa using e1)
      obtain ⟨y, rfl, hy, hyo⟩ : ∃ y : Str, v = V.str y ∧ y.length ≤ 1 ∧ ∀ c ∈ tl y, chOk c := by
        simp only [List.mem_cons, List.not_mem_nil, or_false] at h2
        rcases h2 with rfl | rfl | rfl | rfl
        · exact ⟨_, rfl, by decide +kernel, by decide +kernel⟩
        · exact ⟨_, rfl, by decide +kernel, by decide +kernel⟩
        · exact ⟨_, rfl, by decide +kernel, by decide +kernel⟩
        · exact ⟨_, rfl, by decide +kernel, by decide +kernel⟩
      refine ⟨L, _, e, _, rfl, rfl, SqL.of (s3 _ _ upd_same (T2.fresh hL).1), h1, ?_⟩
      refine ⟨_, rfl, t, c, cs, rfl, T3, fun v H4 hv T4 s4 => ?_⟩
      obtain ⟨i, i0, i1, rfl⟩ := hv
      obtain ⟨l1, l2⟩ := int_text i0 i1
      refine ⟨i, rfl, log_small i0 i1, _, _, rfl, rfl, Nat.le_of_lt (small1000 (by omega)), ?_⟩
      refine q _ H4 (.inr (.inr ⟨hk', _, rfl, by rw [len_app]; omega, fun ch hch => ?_⟩)) T4 (s1.trans (s2.trans ((SameX.of (same_new hL _)).trans (s3.trans s4))))
      rw [tl_append] at hch
      rcases List.mem_append.mp hch with hch | hch
      · exact hyo _ hch
      · exact digit_ok (l2 _ hch)
    · refine ⟨_, rfl, t, c, cs, rfl, T2, fun v H3 hv T3 s3 => ?_⟩
      obtain ⟨y, y0, y1, rfl⟩ := hv
      exact q _ H3 (.inr (.inr ⟨hk', y, rfl, y0, y1⟩)) T3 (s1.trans (s2.trans s3)))

theorem ops_cases {v : V} (h : v ∈ [V.str ("=" : Str), V.str ("!=" : Str), V.str ("<" : Str), V.str ("<=" : Str), V.str (">" : Str), V.str (">=" : Str), V.str ("null" : Str), V.str ("given" : Str)]) : ∃ o : Str, v = V.str o := by
  simp only [List.mem_cons, List.not_mem_nil, or_false] at h
  rcases h with rfl | rfl | rfl | rfl | rfl | rfl | rfl | rfl <;> exact ⟨_, rfl⟩
theorem ok_law_clause {f : Addr} {fd : FuncData} (k : Kn K mg "_law_clause" s_law_clause ["tape", "columns"] f fd) (z : Z mg)
    {g_law_take : Addr} {gd_law_take : FuncData} (c_law_take : Cal P w K mg base 1 "_law_take" ["tape", "many"] (spTake) g_law_take gd_law_take)
    {g_law_value : Addr} {gd_law_value : FuncData} (c_law_value : Cal P w K mg base 4 "_law_value" ["tape", "kind", "nullable"] (spVal) g_law_value gd_law_value) :
    Cal P w K mg base 5 "_law_clause" ["tape", "columns"] (spClause) f fd := k.cal (by
  refine k.F.ok sc_law_clause (fun vs H Q E h => ?_) (fun cdv A outer s H vs Q E hr h => ?_)
  · obtain ⟨t, c, L, cs, cols, rfl, _⟩ := h; rfl
  · obtain ⟨t, c, L, cs, cols, rfl, T, C, hp0, hl, q⟩ := h
    refine ⟨_, (pss_cons (ps_set (i := 2) sc_law_clause.nd rfl (Or.inl rfl) (pe_ix ix_list (pv 1) (pe_call c_law_take.G (hr.mono (by decide)) (by rfl) c_law_take.m c_law_take.kp c_law_take.b .nil pass0 (pa_cons (pv 0) (pa_cons (pe_callB call_len_seq (by rfl) z.len (by decide +kernel) (pa_cons (pv 1) pa_nil)) pa_nil))) (fun _ _ => rfl)))
        (pss_cons (ps_set (i := 3) sc_law_clause.nd rfl (Or.inl rfl) (pe_ix ix_list (pe_lst (pa_cons pe_str (pa_cons pe_str (pa_cons pe_str (pa_cons pe_str (pa_cons pe_str (pa_cons pe_str (pa_cons pe_str (pa_cons pe_str pa_nil))))))))) (pe_call c_law_take.G (hr.mono (by decide)) (by rfl) c_law_take.m c_law_take.kp c_law_take.b .nil pass0 (pa_cons (pv 0) (pa_cons pe_int pa_nil))) (fun _ _ => rfl)))
        (pss_cons (ps_if (PW.pt (pw_or (pt_cmpR op_eq (pv 3) pe_str (nomark _)) (pw_or1 (pt_cmpR op_eq (pv 3) pe_str (nomark _))))) (pss_one (ps_ret (pe_tup (pa_cons (pe_ix ix_tup (pv 2) pe_int (fun _ _ => rfl)) (pa_cons (pv 3) (pa_cons pe_non pa_nil)))))) pss_nil)
        (pss_one (ps_ret (pe_tup (pa_cons (pe_ix ix_tup (pv 2) pe_int (fun _ _ => rfl)) (pa_cons (pv 3) (pa_cons (pe_call c_law_value.G (hr.mono (by decide)) (by rfl) c_law_value.m c_law_value.kp c_law_value.b .nil pass0 (pa_cons (pv 0) (pa_cons (pe_ix ix_tup (pv 2) pe_int (fun _ _ => rfl)) (pa_cons pe_bl pa_nil)))) pa_nil))))))))), ?_⟩
    obtain ⟨xs, h1, h2⟩ := id C
    have hx : xs.length = cols.length := by rw [h2.length, List.length_map]
    refine ⟨_, rfl, _, rfl, _, rfl, L, _, rfl, .inl (SqL.of h1), t, c, cs, (xs.length : Int), rfl, T, by omega, ?_, fun d H1 d0 d1 T1 s1 => ?_⟩
    · have b9 : (2 : Nat) ^ 9000 = 2 ^ 7 * 2 ^ 8993 := by rw [← Nat.pow_add]
      have b8 : 0 < (2 : Nat) ^ 8993 := Nat.pow_pos (by decide)
      rw [b9]
      have : ((xs.length : Int)).natAbs = xs.length := by omega
      omega
    have hd : d.toNat < cols.length := by omega
    obtain ⟨xs', a, k1, k2, k3⟩ := C.get (List.getElem?_eq_getElem hd)
    rw [h1] at k1
    cases k1
    have hLt := T.notL h1
    refine ⟨L, _, d, _, rfl, rfl, SqL.of (s1 _ _ h1 hLt), at_of (by omega) k2, ?_⟩
    refine ⟨(by show 8 ≤ sizeLine; decide), fun O hO => ?_⟩
    refine ⟨_, rfl, t, c, cs, 8, rfl, T1.mono (same_new hO _), by decide, by decide +kernel, fun e H2 e0 e1 T2 s2 => ?_⟩
    obtain ⟨v, g1, g2⟩ := at_in (xs := [V.str ("=" : Str), V.str ("!=" : Str), V.str ("<" : Str), V.str ("<=" : Str), V.str (">" : Str), V.str (">=" : Str), V.str ("null" : Str), V.str ("given" : Str)]) e0 (by simpa using e1)
    obtain ⟨op, rfl⟩ := ops_cases g2
    refine ⟨O, _, e, _, rfl, rfl, SqL.of (s2 _ _ upd_same (T1.fresh hO).1), g1, ?_⟩
    have S2 : SameX t H H2 := s1.trans ((SameX.of (same_new hO _)).trans s2)
    have k4 := KeepT.ofX T S2 _ _ k3
    have hc : cols[d.toNat] ∈ cols := List.getElem_mem hd
    refine ⟨_, rfl, rfl, _, rfl, ?_⟩
    refine ifD (fun ho => ?_) (fun ho => ?_)
    · refine ⟨_, rfl, a, _, 0, _, rfl, rfl, SqT.of k4, atI_nat (j := 0) rfl, _, rfl, (by show 3 ≤ sizeLine; decide), fun p hp => ?_⟩
      exact q (.ref p) ⟨cols[d.toNat].n, op, .non⟩ _ (cl_mk upd_same rfl) ⟨_, hc, rfl, .inl ⟨.inl (V.str.inj ho), rfl⟩⟩ (T2.mono (same_new hp _)) (S2.trans (SameX.of (same_new hp _)))
    refine ⟨_, rfl, rfl, _, rfl, ?_⟩
    refine ifD (fun ho2 => ?_) (fun ho2 => ?_)
    · refine ⟨_, rfl, a, _, 0, _, rfl, rfl, SqT.of k4, atI_nat (j := 0) rfl, _, rfl, (by show 3 ≤ sizeLine; decide), fun p hp => ?_⟩
      exact q (.ref p) ⟨cols[d.toNat].n, op, .non⟩ _ (cl_mk upd_same rfl) ⟨_, hc, rfl, .inl ⟨.inr (V.str.inj ho2), rfl⟩⟩ (T2.mono (same_new hp _)) (S2.trans (SameX.of (same_new hp _)))
    · refine ⟨_, rfl, a, _, 0, _, rfl, rfl, SqT.of k4, atI_nat (j := 0) rfl, _, rfl, ?_⟩
      refine ⟨_, rfl, _, rfl, a, _, 1, _, rfl, rfl, SqT.of k4, atI_nat (j := 1) rfl, t, c, cs, _, _, rfl, T2, fun w H3 hw T3 s3 => ?_⟩
      refine ⟨(by show 3 ≤ sizeLine; decide), fun p hp => ?_⟩
      exact q (.ref p) ⟨cols[d.toNat].n, op, w⟩ _ (cl_mk upd_same hw.scal) ⟨_, hc, rfl, .inr ⟨⟨fun z => ho (congrArg V.str z), fun z => ho2 (congrArg V.str z)⟩, hw⟩⟩ (T3.mono (same_new hp _)) (S2.trans (s3.trans (SameX.of (same_new hp _)))))

theorem five_a {d : Int} (d0 : 0 ≤ d) (d1 : d < 5) : ∃ n : Int, atI [V.int 1, V.int 0, V.int 2, V.int 1, V.int 4] d = some (.int n) ∧ 0 ≤ n ∧ n ≤ 4 := by
  obtain ⟨v, h1, h2⟩ := at_in (xs := [V.int 1, V.int 0, V.int 2, V.int 1, V.int 4]) d0 (by simpa using d1)
  simp only [List.mem_cons, List.not_mem_nil, or_false] at h2
  rcases h2 with rfl | rfl | rfl | rfl | rfl <;> exact ⟨_, h1, by decide, by decide⟩
theorem five_b {d : Int} (d0 : 0 ≤ d) (d1 : d < 5) : ∃ n : Int, atI [V.int 1, V.int 2, V.int 0, V.int 1, V.int 4] d = some (.int n) ∧ 0 ≤ n ∧ n ≤ 4 := by
  obtain ⟨v, h1, h2⟩ := at_in (xs := [V.int 1, V.int 2, V.int 0, V.int 1, V.int 4]) d0 (by simpa using d1)
  simp only [List.mem_cons, List.not_mem_nil, or_false] at h2
  rcases h2 with rfl | rfl | rfl | rfl | rfl <;> exact ⟨_, h1, by decide, by decide⟩
theorem ok_law_condition {f : Addr} {fd : FuncData} (k : Kn K mg "_law_condition" s_law_condition ["tape", "columns"] f fd) (z : Z mg)
    {g_law_take : Addr} {gd_law_take : FuncData} (c_law_take : Cal P w K mg base 1 "_law_take" ["tape", "many"] (spTake) g_law_take gd_law_take)
    {g_law_clause : Addr} {gd_law_clause : FuncData} (c_law_clause : Cal P w K mg base 5 "_law_clause" ["tape", "columns"] (spClause) g_law_clause gd_law_clause) :
    Cal P w K mg base 6 "_law_condition" ["tape", "columns"] (spCond) f fd := k.cal (by
  refine k.F.ok sc_law_condition (fun vs H Q E h => ?_) (fun cdv A outer s H vs Q E hr h => ?_)
  · obtain ⟨t, c, L, cs, cols, rfl, _⟩ := h; rfl
  · obtain ⟨t, c, L, cs, cols, rfl, T, C, hp0, hl, q⟩ := h
    refine ⟨_, (pss_cons (ps_set (i := 2) sc_law_condition.nd rfl (Or.inl rfl) (pe_lst pa_nil))
        (pss_cons (ps_for PassesOwn.never rfl (pi_range1 (by rfl) z.range (pa_cons (pe_ix ix_list (pe_lst (pa_cons pe_int (pa_cons pe_int (pa_cons pe_int (pa_cons pe_int (pa_cons pe_int pa_nil)))))) (pe_call c_law_take.G (hr.mono (by decide)) (by rfl) c_law_take.m c_law_take.kp c_law_take.b .nil pass0 (pa_cons (pv 0) (pa_cons pe_int pa_nil))) (fun _ _ => rfl)) pa_nil)) (pg_name (i := 3) sc_law_condition.nd rfl (Or.inl rfl))
        (pss_cons (ps_set (i := 4) sc_law_condition.nd rfl (Or.inl rfl) (pe_ix ix_list (pe_lst (pa_cons pe_int (pa_cons pe_int (pa_cons pe_int (pa_cons pe_int (pa_cons pe_int pa_nil)))))) (pe_call c_law_take.G (hr.mono (by decide)) (by rfl) c_law_take.m c_law_take.kp c_law_take.b .nil pass0 (pa_cons (pv 0) (pa_cons pe_int pa_nil))) (fun _ _ => rfl)))
        (pss_one (ps_expr (pe_bm PySem.F.plainAttrs_list PySem.F.slot_list_append PySem.F.type_list_append mt_append (pv 2) (pa_cons (pe_callTy call_tuple_of (by rfl) z.tuple (by decide +kernel) (pa_cons (pe_lc (own := [("j", 5)]) (g := gName 5) (tt := tYes) (by rfl) sc_law_condition.nd (pi_range1 (by rfl) z.range (pa_cons (pv 4) pa_nil)) (blkOk_by (own := [("j", 5)]) (N := ["tape", "columns", "condition", "k", "many", "j"]) (sc := defScope s_law_condition) (by decide +kernel)) (fun _ _ _ _ _ => pg_name (i := 5) sc_law_condition.nd rfl (Or.inl rfl)) (fun _ _ _ _ _ => pts_nil) (fun _ _ _ _ _ => (pe_call c_law_clause.G (hr.mono (by decide)) (by rfl) c_law_clause.m c_law_clause.kp c_law_clause.b .nil pass0 (pa_cons (pv 0) (pa_cons (pv 1) pa_nil))))) pa_nil)) pa_nil))))))
        (pss_one (ps_ret (pe_callTy call_tuple_of (by rfl) z.tuple (by decide +kernel) (pa_cons (pv 2) pa_nil)))))), ?_⟩
    have hLt : L ≠ t := by obtain ⟨xs, h1, _⟩ := C; exact T.notL h1
    refine ⟨(by show 0 ≤ sizeLine; decide), fun R hR => ?_⟩
    have fR := T.fresh hR
    refine ⟨(by show 5 ≤ sizeLine; decide), fun A1 hA1 => ?_⟩
    have TA := (T.mono (same_new hR (.lst []))).mono (same_new hA1 (.lst [.int 1, .int 0, .int 2, .int 1, .int 4]))
    refine ⟨_, rfl, t, c, cs, 5, rfl, TA, by decide, by decide +kernel, fun d H1 d0 d1 T1 s1 => ?_⟩
    obtain ⟨n, hn, n0, n4⟩ := five_a d0 d1
    have fA := (T.mono (same_new hR (.lst []))).fresh hA1
    have RA : R ≠ A1 := ne_of_none upd_same hA1
    have R1 : H1 R = some (.lst []) := s1 _ _ (by rw [upd_ne RA]; exact upd_same) fR.1
    have S1 : SameX t H H1 := (SameX.of ((same_new hR _).trans (same_new hA1 _))).trans s1
    refine ⟨A1, _, d, _, rfl, rfl, SqL.of (s1 _ _ upd_same fA.1), hn, n, rfl, by omega, by omega, for_range (lo := 0) (n := n.toNat) (fun i σ H' => ∃ v3 v4 v5 xs, ∃ cond : Cond, σ = [some (.ref t), some (.ref L), some (.ref R), v3, v4, v5] ∧ H' R = some (.lst xs) ∧ TpL H' xs (cond.map altD) ∧ cond.length = i ∧ (∀ a ∈ cond, ∀ cl ∈ a, ClOk cols cl) ∧ (∀ a ∈ cond, a.length ≤ 4) ∧ TapeAt H' t c cs ∧ SameX t H H') ⟨none, none, none, [], [], rfl, R1, .nil, rfl, (fun a h => by cases h), (fun a h => by cases h), T1, S1⟩ ?_ ?_⟩
    · rintro i σ H2 hi ⟨v3, v4, v5, xs, cond, rfl, R2, r2, l2, k2, m2, T2, s2⟩
      refine ⟨(by show 5 ≤ sizeLine; decide), fun B hB => ?_⟩
      have e3 := same_new hB (.lst [.int 1, .int 2, .int 0, .int 1, .int 4])
      have fB := T2.fresh hB
      refine ⟨_, rfl, t, c, cs, 5, rfl, T2.mono e3, by decide, by decide +kernel, fun d H3 d0 d1 T3 s3 => ?_⟩
      obtain ⟨g, hg, g0, g4⟩ := five_b d0 d1
      refine ⟨B, _, d, _, rfl, rfl, SqL.of (s3 _ _ upd_same fB.1), hg, ?_⟩
      have S3 : SameX t H2 H3 := (SameX.of e3).trans s3
      have R3 := S3 _ _ R2 fR.1
      have r3 := r2.mono (KeepT.ofX T2 S3)
      have C3 := C.mono (KeepT.ofX T (s2.trans S3)) (fun o h => (s2.trans S3) _ _ h hLt)
      refine ⟨_, rfl, .inl ⟨rfl, _, SqL.of R3⟩, ?_⟩
      refine ⟨_, rfl, g, rfl, by omega, by omega, fun D hD => lc_range (lo := 0) (n := g.toNat) (fun j H' => ∃ ys, ∃ cls : List Cl, H' D = some (.lst ys) ∧ TpL H' ys (cls.map clD) ∧ cls.length = j ∧ (∀ cl ∈ cls, ClOk cols cl) ∧ TapeAt H' t c cs ∧ SameX t H3 H') ?_ ?_ ?_⟩
      · exact ⟨[], [], upd_same, .nil, rfl, (fun cl h => by cases h), T3.mono (same_new hD _), SameX.of (same_new hD _)⟩
      · rintro j H4 hj ⟨ys, cls, D4, r4, l4, k4, T4, s4⟩
        have fD := T3.fresh hD
        have C4 := C3.mono (KeepT.ofX T3 s4) (fun o h => s4 _ _ h hLt)
        refine ⟨rfl, _, rfl, _, rfl, t, c, L, cs, cols, rfl, T4, C4, hp0, hl, fun v cl H5 hv kcl T5 s5 => ?_⟩
        have D5 := s5 _ _ D4 fD.1
        refine ⟨ys, D5, (by rw [r4.length, List.length_map]; exact small1000 (by omega)), ys ++ [v], cls ++ [cl], upd_same, ?_, by simp [l4], ?_, T5.upd fD.1 fD.2, samex_upd hD _ (s4.trans s5)⟩
        · rw [List.map_append]
          have ku : KeepT H5 (upd H5 D (.lst (ys ++ [v]))) := KeepT.upd (fun zs z => by rw [D5] at z; cases z)
          exact TpL.snoc ((r4.mono (KeepT.ofX T4 s5)).mono ku) (hv.mono ku)
        · intro x hx
          rcases List.mem_append.mp hx with hx | hx
          · exact k4 x hx
          · rw [List.mem_singleton.mp hx]; exact kcl
      rintro H4 ⟨ys, cls, D4, r4, l4, k4, T4, s4⟩
      refine ⟨D, ys, rfl, .inl ⟨SqL.of D4, fun p hp => ?_⟩⟩
      have e5 := same_new hp (.tup ys)
      have R4 := s4 _ _ R3 fR.1
      have Rp : R ≠ p := ne_of_none R4 hp
      refine ⟨R, xs, _, rfl, rfl, e5 _ _ R4, (by rw [r2.length, List.length_map]; exact small1000 (by omega)), ?_⟩
      have ku : KeepT (upd H4 p (.tup ys)) (upd (upd H4 p (.tup ys)) R (.lst (xs ++ [.ref p]))) := KeepT.upd (fun zs z => by rw [e5 _ _ R4] at z; cases z)
      have S4 : SameX t H (upd H4 p (.tup ys)) := s2.trans (S3.trans (s4.trans (SameX.of e5)))
      refine ⟨_, _, _, xs ++ [.ref p], cond ++ [cls], rfl, upd_same, ?_, by simp [l2], ?_, ?_, (T4.mono e5).upd fR.1 fR.2, samex_upd hR _ S4⟩
      · rw [List.map_append]
        exact TpL.snoc (((r3.mono (KeepT.ofX T3 s4)).mono (KeepT.of e5)).mono ku) (.t (ku _ _ upd_same) ((r4.mono (KeepT.of e5)).mono ku))
      · intro a ha
        rcases List.mem_append.mp ha with ha | ha
        · exact k2 a ha
        · rw [List.mem_singleton.mp ha]; exact k4
      · intro a ha
        rcases List.mem_append.mp ha with ha | ha
        · exact m2 a ha
        · rw [List.mem_singleton.mp ha]; omega
    · rintro σ H2 ⟨v3, v4, v5, xs, cond, rfl, R2, r2, l2, k2, m2, T2, s2⟩
      refine ⟨_, rfl, R, xs, rfl, .inl ⟨SqL.of R2, fun p hp => ?_⟩⟩
      exact q (.ref p) cond _ (.t upd_same (r2.mono (KeepT.new hp _))) k2 (by omega) m2 (T2.mono (same_new hp _)) (s2.trans (SameX.of (same_new hp _))))

theorem four_a {d : Int} (d0 : 0 ≤ d) (d1 : d < 4) : ∃ n : Int, atI [V.int 0, V.int 0, V.int 1, V.int 2] d = some (.int n) ∧ 0 ≤ n ∧ n ≤ 2 := by
  obtain ⟨v, h1, h2⟩ := at_in (xs := [V.int 0, V.int 0, V.int 1, V.int 2]) d0 (by simpa using d1)
  simp only [List.mem_cons, List.not_mem_nil, or_false] at h2
  rcases h2 with rfl | rfl | rfl | rfl <;> exact ⟨_, h1, by decide, by decide⟩
theorem ok_law_limits {f : Addr} {fd : FuncData} (k : Kn K mg "_law_limits" s_law_limits ["tape", "schema", "table"] f fd) (z : Z mg)
    {g_law_names : Addr} {gd_law_names : FuncData} (c_law_names : Cal P w K mg base 1 "_law_names" ["columns"] (spNames) g_law_names gd_law_names)
    {g_law_take : Addr} {gd_law_take : FuncData} (c_law_take : Cal P w K mg base 1 "_law_take" ["tape", "many"] (spTake) g_law_take gd_law_take)
    {g_law_condition : Addr} {gd_law_condition : FuncData} (c_law_condition : Cal P w K mg base 6 "_law_condition" ["tape", "columns"] (spCond) g_law_condition gd_law_condition) :
    Cal P w K mg base 7 "_law_limits" ["tape", "schema", "table"] (spLimits) f fd := k.cal (by
  refine k.F.ok sc_law_limits (fun vs H Q E h => ?_) (fun cdv A outer s H vs Q E hr h => ?_)
  · obtain ⟨t, c, S, cs, s, a, tab, rfl, _⟩ := h; rfl
  · obtain ⟨t, c, S, cs, s, a, tab, rfl, T, A, l6, hnk, hm, bare, q⟩ := h
    have hu := hu_of hr
    have htk : ∃ kvs, H t = some (.dK kvs) := by obtain ⟨_, _, _, _, e, _⟩ := T.dk; exact ⟨_, e⟩
    have D := A.ds _ hm
    obtain ⟨a1, a2, a3, a4⟩ := A.tS
    have hk0 : H a.k = some (.lst []) := by obtain ⟨xs, g1, g2⟩ := D.ch; rw [bare.c0] at g2; cases g2; exact g1
    have hu0 : H a.u = some (.lst []) := by have := D.un; rw [bare.u0] at this; exact this
    have hr0 : H a.r = some (.lst []) := by obtain ⟨xs, g1, g2⟩ := D.rf; rw [bare.r0] at g2; cases g2; exact g1
    have l5 := bare.l5
    have l0 := bare.l0
    have ck : a.k ≠ c := a4 _ hm _ (by simp [adL])
    have cu : a.u ≠ c := a4 _ hm _ (by simp [adL])
    have cr : a.r ≠ c := a4 _ hm _ (by simp [adL])
    have kt' : a.k ≠ t := T.notL hk0
    have ut' : a.u ≠ t := T.notL hu0
    have rt' : a.r ≠ t := T.notL hr0
    have lcn : (colNs tab.cols).length = tab.cols.length := by unfold colNs; rw [List.length_map]
    have ndA : (adL a).Nodup := (List.pairwise_flatMap.mp (List.nodup_cons.mp A.ln).2).1 _ hm
    simp only [adL, List.nodup_cons, List.mem_cons, List.not_mem_nil, or_false, not_or] at ndA
    obtain ⟨⟨n1, n2, n3⟩, ⟨n4, n5⟩, n6, _⟩ := ndA
    refine ⟨_, (pss_cons (ps_set (i := 3) sc_law_limits.nd rfl (Or.inl rfl) (pe_dget hu (pe_dget hu (pv 1) (pv 2) (fun _ _ => rfl)) pe_str (fun _ _ => rfl)))
        (pss_cons (ps_set (i := 4) sc_law_limits.nd rfl (Or.inl rfl) (pe_slice sl_list (pe_call c_law_names.G (hr.mono (by decide)) (by rfl) c_law_names.m c_law_names.kp c_law_names.b .nil pass0 (pa_cons (pv 3) pa_nil)) (po_some pe_int) po_none))
        (pss_cons (ps_setLc (i := 6) (own := [("name", 5)]) (g := gName 5) (by rfl) sc_law_limits.nd rfl rfl (sw_true rfl rfl rfl (by decide +kernel)) (pi_list (pe_callB (call_sortedD rfl) (by rfl) z.sorted (by decide +kernel) (pa_cons (pv 1) pa_nil))) (blkOk_by (own := [("name", 5)]) (N := ["tape", "schema", "table", "columns", "names", "name", "others", "k", "column", "other"]) (sc := defScope s_law_limits) (by decide +kernel)) (fun _ _ _ _ _ => pg_name (i := 5) sc_law_limits.nd rfl (Or.inl rfl)) (fun _ _ _ _ _ => (pts_one (pt_cmpR op_ne (pv 5) (pv 2) (nomark _)))) (fun _ _ _ _ _ => (pv 5)))
        (pss_cons (ps_for PassesOwn.never rfl (pi_range1 (by rfl) z.range (pa_cons (pe_ix ix_list (pe_lst (pa_cons pe_int (pa_cons pe_int (pa_cons pe_int (pa_cons pe_int pa_nil))))) (pe_call c_law_take.G (hr.mono (by decide)) (by rfl) c_law_take.m c_law_take.kp c_law_take.b .nil pass0 (pa_cons (pv 0) (pa_cons pe_int pa_nil))) (fun _ _ => rfl)) pa_nil)) (pg_name (i := 7) sc_law_limits.nd rfl (Or.inl rfl))
        (pss_one (ps_expr (pe_bm PySem.F.plainAttrs_list PySem.F.slot_list_append PySem.F.type_list_append mt_append (pe_dget hu (pe_dget hu (pv 1) (pv 2) (fun _ _ => rfl)) pe_str (fun _ _ => rfl)) (pa_cons (pe_call c_law_condition.G (hr.mono (by decide)) (by rfl) c_law_condition.m c_law_condition.kp c_law_condition.b .nil pass0 (pa_cons (pv 0) (pa_cons (pv 3) pa_nil))) pa_nil)))))
        (pss_cons (ps_for PassesOwn.never rfl (pi_list (pv 4)) (pg_name (i := 5) sc_law_limits.nd rfl (Or.inl rfl))
        (pss_one (ps_if (PW.pt (pw_and (pt_cmpR op_eq (pe_call c_law_take.G (hr.mono (by decide)) (by rfl) c_law_take.m c_law_take.kp c_law_take.b .nil pass0 (pa_cons (pv 0) (pa_cons pe_int pa_nil))) pe_int (nomark _)) (pw_and1 (pt_cmpR op_lt (pe_callB call_len_seq (by rfl) z.len (by decide +kernel) (pa_cons (pe_dget hu (pe_dget hu (pv 1) (pv 2) (fun _ _ => rfl)) pe_str (fun _ _ => rfl)) pa_nil)) pe_int (nomark _))))) (pss_one (ps_expr (pe_bm PySem.F.plainAttrs_list PySem.F.slot_list_append PySem.F.type_list_append mt_append (pe_dget hu (pe_dget hu (pv 1) (pv 2) (fun _ _ => rfl)) pe_str (fun _ _ => rfl)) (pa_cons (pv 5) pa_nil)))) pss_nil)))
        (pss_one (ps_for PassesOwn.never rfl (pi_list (pe_slice sl_list (pv 3) (po_some pe_int) po_none)) (pg_name (i := 8) sc_law_limits.nd rfl (Or.inl rfl))
        (pss_one (ps_if (PW.pt (pw_and (pt_cmpR (op_neD hr.units) (pv 6) (pe_lst pa_nil) (nomark _)) (pw_and (pt_cmpR op_eq (pe_call c_law_take.G (hr.mono (by decide)) (by rfl) c_law_take.m c_law_take.kp c_law_take.b .nil pass0 (pa_cons (pv 0) (pa_cons pe_int pa_nil))) pe_int (nomark _)) (pw_and1 (pt_cmpR op_lt (pe_callB call_len_seq (by rfl) z.len (by decide +kernel) (pa_cons (pe_dget hu (pe_dget hu (pv 1) (pv 2) (fun _ _ => rfl)) pe_str (fun _ _ => rfl)) pa_nil)) pe_int (nomark _)))))) (pss_cons (ps_set (i := 9) sc_law_limits.nd rfl (Or.inl rfl) (pe_ix ix_list (pv 6) (pe_call c_law_take.G (hr.mono (by decide)) (by rfl) c_law_take.m c_law_take.kp c_law_take.b .nil pass0 (pa_cons (pv 0) (pa_cons (pe_callB call_len_seq (by rfl) z.len (by decide +kernel) (pa_cons (pv 6) pa_nil)) pa_nil))) (fun _ _ => rfl)))
        (pss_one (ps_if (pt_cmpR op_eq (pe_ix ix_tup (pe_ix ix_list (pe_dget hu (pe_dget hu (pv 1) (pv 9) (fun _ _ => rfl)) pe_str (fun _ _ => rfl)) pe_int (fun _ _ => rfl)) pe_int (fun _ _ => rfl)) (pe_ix ix_tup (pv 8) pe_int (fun _ _ => rfl)) (nomark _)) (pss_one (ps_expr (pe_bm PySem.F.plainAttrs_list PySem.F.slot_list_append PySem.F.type_list_append mt_append (pe_dget hu (pe_dget hu (pv 1) (pv 2) (fun _ _ => rfl)) pe_str (fun _ _ => rfl)) (pa_cons (pe_tup (pa_cons (pe_ix ix_tup (pv 8) pe_int (fun _ _ => rfl)) (pa_cons (pv 9) pa_nil))) pa_nil)))) pss_nil))) pss_nil))))))))), ?_⟩
    refine ⟨_, rfl, _, rfl, S, _, rfl, A.desc hm, a.d, _, rfl, D.gc, ?_⟩
    refine ⟨_, rfl, a.c, tab.cols, rfl, D.co, by omega, fun N H1 hN0 s1 hN => ⟨_, rfl, N, _, rfl, SqL.of hN, fun NL hNL => ?_⟩⟩
    rw [cut_tail, ← List.map_drop]
    have e2 := same_new hNL (.lst (((colNs tab.cols).drop 1).map V.str))
    have S2 : Same H (upd H1 NL (.lst (((colNs tab.cols).drop 1).map V.str))) := s1.trans e2
    refine ⟨_, rfl, S, schK s, schN s, rfl, .inl (S2 _ _ A.sk), sch_keys s, (by unfold schN; rw [List.length_map]; omega), fun ys P hper _ hP => ?_⟩
    have e3 := same_new hP (.lst (ys.map V.str))
    have ly : ys.length ≤ 6 := by rw [hper.length_eq]; unfold schN; rw [List.length_map]; exact l6
    refine ⟨P, rfl, ⟨_, SqL.of upd_same⟩, fun OL hOL => inner walk_list (fun i H' => ∃ os : List Str, H' OL = some (.lst (os.map V.str)) ∧ (∀ o ∈ os, o ∈ schN s ∧ o ≠ tab.n) ∧ os.length ≤ i ∧ Same (upd (upd H1 NL (.lst (((colNs tab.cols).drop 1).map V.str))) P (.lst (ys.map V.str))) H') ⟨[], upd_same, (by intro o ho; cases ho), Nat.le_refl _, same_new hOL _⟩ (fun i H' _ ⟨_, _, _, _, s⟩ => SqL.of (s _ _ upd_same)) ?_ ?_⟩
    · rintro i x H4 H4' hi ⟨os, h1, h2, h3, h4⟩ ⟨rfl, ex⟩
      obtain ⟨z, hz, rfl⟩ : ∃ z, z ∈ ys ∧ x = V.str z := by
        obtain ⟨z, h1, h2⟩ := List.mem_map.mp (List.mem_of_getElem? ex)
        exact ⟨z, h1, h2.symm⟩
      refine ⟨rfl, _, rfl, _, rfl, rfl, _, rfl, ?_⟩
      refine ifN (fun hne => ?_) (fun _ => ⟨os, h1, h2, by omega, h4⟩)
      rw [List.length_map] at hi
      refine ⟨_, rfl, _, h1, (by rw [List.length_map]; exact small1000 (by omega)), os ++ [z], by rw [upd_same, List.map_append]; rfl, ?_, by rw [List.length_append, List.length_singleton]; omega, same_upd hOL _ h4⟩
      intro o ho
      rcases List.mem_append.mp ho with ho | ho
      · exact h2 o ho
      · rw [List.mem_singleton.mp ho]
        exact ⟨hper.mem_iff.mp hz, fun e => hne (congrArg V.str e)⟩
    rintro H4 ⟨os, ol, ho, lo, s4⟩
    have lo6 : os.length ≤ 6 := by rw [List.length_map] at lo; omega
    have S4 : Same H H4 := S2.trans (e3.trans s4)
    have hNL4 : H4 NL = some (.lst (((colNs tab.cols).drop 1).map V.str)) := s4 _ _ (e3 _ _ upd_same)
    have L4 : Lim H H4 t c cs a OL os [] [] [] := ⟨T.mono S4, KeepT.of S4, SameE.of S4, ol, ⟨[], S4 _ _ hk0, .nil⟩, S4 _ _ hu0, ⟨[], S4 _ _ hr0, .nil⟩⟩
    have fresh : ∀ {b : Addr}, H b = none → b ≠ a.k ∧ b ≠ a.u ∧ b ≠ a.r ∧ b ≠ t := fun h => ⟨(ne_of_none hk0 h).symm, (ne_of_none hu0 h).symm, (ne_of_none hr0 h).symm, by obtain ⟨_, e⟩ := htk; exact (ne_of_none e h).symm⟩
    have fNL : H NL = none := s1.free hNL
    have fOL : H OL = none := (S2.trans e3).free hOL
    obtain ⟨x1, x2, x3, x4⟩ := fresh fNL
    obtain ⟨y1, y2, y3, y4⟩ := fresh fOL
    -- the checks
    refine ⟨(by show 4 ≤ sizeLine; decide), fun M hM => ?_⟩
    have e5 := same_new hM (.lst [.int 0, .int 0, .int 1, .int 2])
    refine ⟨_, rfl, t, c, cs, 4, rfl, L4.T.mono e5, by decide, by decide +kernel, fun d H6 d0 d1 T6 s6 => ?_⟩
    obtain ⟨n, hn, m0, m2⟩ := four_a d0 d1
    have L6 := (L4.step e5).stepX T6 s6
    have hNL6 := s6 _ _ (e5 _ _ hNL4) x4
    refine ⟨M, _, d, _, rfl, rfl, SqL.of (s6 _ _ upd_same (L4.T.fresh hM).1), hn, n, rfl, by omega, by omega, for_range (lo := 0) (n := n.toNat) (fun i σ H' => ∃ v5 v7, ∃ conds : List Cond, σ = [some (.ref t), some (.ref S), some (.str tab.n), some (.ref a.c), some (.ref NL), v5, some (.ref OL), v7, none, none] ∧ Lim H H' t c cs a OL os conds [] [] ∧ conds.length = i ∧ (∀ cd ∈ conds, cd.length ≤ 4 ∧ ∀ x ∈ cd, x.length ≤ 4 ∧ ∀ cl ∈ x, ClOk tab.cols cl) ∧ H' NL = some (.lst (((colNs tab.cols).drop 1).map V.str))) ⟨_, _, [], rfl, L6, rfl, (by intro x hx; cases hx), hNL6⟩ ?_ ?_⟩
    · rintro i σ H7 hi ⟨v5, v7, conds, rfl, L7, l7, k7, N7⟩
      obtain ⟨g1, g2, g3, g4, g5, g6, _⟩ := L7.see A hm htk
      obtain ⟨xs, c1, c2⟩ := L7.ch
      refine ⟨_, rfl, _, rfl, S, _, rfl, g1, a.d, _, rfl, g3, .inl ⟨rfl, _, SqL.of c1⟩, ?_⟩
      refine ⟨_, rfl, _, rfl, t, c, a.c, cs, tab.cols, rfl, L7.T, g6, by omega, by omega, fun v cond H8 hv kc lc mc T8 s8 => ?_⟩
      have L8 := L7.stepX T8 s8
      have c8 := s8 _ _ c1 kt'
      have r8 := c2.mono (KeepT.ofX L7.T s8)
      refine ⟨a.k, xs, v, rfl, rfl, c8, (by rw [c2.length, List.length_map]; exact small1000 (by omega)), ?_⟩
      have ku : KeepT H8 (upd H8 a.k (.lst (xs ++ [v]))) := KeepT.upd (fun zs z => by rw [c8] at z; cases z)
      obtain ⟨ys', r1, r2⟩ := L8.rf
      refine ⟨_, _, conds ++ [cond], rfl, ⟨T8.upd kt' ck.symm, L8.kt.trans ku, SameE.upd (by simp) _ L8.se, by rw [upd_ne y1]; exact L8.ol, ⟨xs ++ [v], upd_same, ?_⟩, by rw [upd_ne (Ne.symm n4)]; exact L8.un, ⟨ys', by rw [upd_ne (Ne.symm n5)]; exact r1, r2.mono ku⟩⟩, by rw [List.length_append, List.length_singleton, l7], ?_, by rw [upd_ne x1]; exact s8 _ _ N7 x4⟩
      · rw [List.map_append]
        exact TpL.snoc (r8.mono ku) (hv.mono ku)
      · intro x hx
        rcases List.mem_append.mp hx with hx | hx
        · exact k7 x hx
        · rw [List.mem_singleton.mp hx]
          exact ⟨lc, fun y hy => ⟨mc y hy, kc y hy⟩⟩
    rintro σ H7 ⟨v5, v7, conds, rfl, L7, l7, k7, N7⟩
    -- the uniques
    refine ⟨_, rfl, NL, rfl, ⟨_, SqL.of N7⟩, for_it walk_list (fun j σ H' => ∃ v5, ∃ un : List Str, σ = [some (.ref t), some (.ref S), some (.str tab.n), some (.ref a.c), some (.ref NL), v5, some (.ref OL), v7, none, none] ∧ Lim H H' t c cs a OL os conds un [] ∧ un.length ≤ 4 ∧ un.Nodup ∧ (∀ x ∈ un, x ∈ ((colNs tab.cols).drop 1).take j) ∧ H' NL = some (.lst (((colNs tab.cols).drop 1).map V.str))) ⟨v5, [], rfl, L7, by decide, List.nodup_nil, (by intro x hx; cases hx), N7⟩ (fun j σ H' _ ⟨_, _, _, _, _, _, _, e⟩ => SqL.of e) ?_ ?_⟩
    · rintro j x σ H8 H8' hj ⟨v5, un, rfl, L8, l8, nd8, k8, N8⟩ ⟨rfl, ex⟩
      rw [List.length_map] at hj
      obtain ⟨z, hz, rfl⟩ : ∃ z, ((colNs tab.cols).drop 1)[j]? = some z ∧ x = V.str z := by
        rw [List.getElem?_map] at ex
        cases e : ((colNs tab.cols).drop 1)[j]? with
        | none => rw [e] at ex; cases ex
        | some z => rw [e] at ex; exact ⟨z, rfl, (Option.some.inj ex).symm⟩
      have mono : ∀ y ∈ un, y ∈ ((colNs tab.cols).drop 1).take (j + 1) := fun y hy => by rw [List.take_add_one]; exact List.mem_append.mpr (.inl (k8 y hy))
      refine ⟨_, rfl, t, c, cs, 4, rfl, L8.T, by decide, by decide +kernel, fun d H9 d0 d1 T9 s9 => ⟨rfl, _, rfl, ?_⟩⟩
      have L9 := L8.stepX T9 s9
      have N9 := s9 _ _ N8 x4
      refine ifD (fun _ => ?_) (fun _ => ⟨_, un, rfl, L9, l8, nd8, mono, N9⟩)
      obtain ⟨g1, g2, g3, g4, g5, g6, _⟩ := L9.see A hm htk
      refine ⟨_, rfl, _, rfl, S, _, rfl, g1, a.d, _, rfl, g4, a.u, _, rfl, .inl (SqL.of L9.un), _, _, rfl, rfl, _, rfl, ?_⟩
      refine ifD (fun h4 => ?_) (fun _ => ⟨_, un, rfl, L9, l8, nd8, mono, N9⟩)
      rw [List.length_map] at h4
      refine ⟨_, rfl, _, rfl, S, _, rfl, g1, a.d, _, rfl, g4, .inl ⟨rfl, _, SqL.of L9.un⟩, _, rfl, a.u, _, _, rfl, rfl, L9.un, (by rw [List.length_map]; exact small1000 (by omega)), ?_⟩
      have ku : KeepT H9 (upd H9 a.u (.lst (un.map V.str ++ [.str z]))) := KeepT.upd (fun zs q => by rw [L9.un] at q; cases q)
      obtain ⟨xs', r1, r2⟩ := L9.ch
      obtain ⟨ys', r3, r4⟩ := L9.rf
      refine ⟨_, un ++ [z], rfl, ⟨T9.upd ut' cu.symm, L9.kt.trans ku, SameE.upd (by simp) _ L9.se, by rw [upd_ne y2]; exact L9.ol, ⟨xs', by rw [upd_ne n4]; exact r1, r2.mono ku⟩, by rw [upd_same, List.map_append]; rfl, ⟨ys', by rw [upd_ne (Ne.symm n6)]; exact r3, r4.mono ku⟩⟩, by rw [List.length_append, List.length_singleton]; omega, ?_, ?_, by rw [upd_ne x2]; exact N9⟩
      · refine List.nodup_append.mpr ⟨nd8, by simp, fun y hy w hw => ?_⟩
        have : w = z := by simpa using hw
        subst this
        rintro rfl
        obtain ⟨i0, hi0, ei⟩ := List.getElem_of_mem (k8 _ hy)
        rw [List.length_take] at hi0
        rw [List.getElem_take] at ei
        have ndn : ((colNs tab.cols).drop 1).Nodup := bare.co.nd.sublist (List.drop_sublist _ _)
        have b1 : ((colNs tab.cols).drop 1)[i0]? = some y := by rw [List.getElem?_eq_getElem (by omega), ei]
        have := nd_ix ndn b1 hz
        omega
      · intro y hy
        rcases List.mem_append.mp hy with hy | hy
        · exact mono y hy
        · rw [List.mem_singleton.mp hy, List.take_add_one, hz]
          exact List.mem_append.mpr (.inr (by simp))
    rintro σ H8 ⟨v5, un, rfl, L8, l8, nd8, k8, N8⟩
    have hun : ∀ x ∈ un, x ∈ colNs (tab.cols.drop 1) := fun x hx => by
      have := List.mem_of_mem_take (k8 x hx)
      unfold colNs at this ⊢
      rw [List.map_drop]
      exact this
    -- the references
    obtain ⟨g1, g2, g3, g4, g5, ⟨xc, g6, g7⟩, _⟩ := L8.see A hm htk
    have lx : xc.length = tab.cols.length := by rw [g7.length, List.length_map]
    refine ⟨_, rfl, _, rfl, a.c, xc, rfl, SqL.of g6, fun CL hCL => ?_⟩
    rw [cut_tail]
    have e9 := same_new hCL (.lst (xc.drop 1))
    have fCL : H CL = none := by
      cases e : H CL with
      | none => rfl
      | some o =>
        exfalso
        by_cases hin : CL ∈ [t, a.k, a.u, a.r]
        · simp only [List.mem_cons, List.not_mem_nil, or_false] at hin
          obtain ⟨xs', r1, _⟩ := L8.ch
          obtain ⟨ys', r3, _⟩ := L8.rf
          rcases hin with z | z | z | z
          · obtain ⟨_, _, _, _, e', _⟩ := L8.T.dk; rw [z, e'] at hCL; cases hCL
          · rw [z, r1] at hCL; cases hCL
          · rw [z, L8.un] at hCL; cases hCL
          · rw [z, r3] at hCL; cases hCL
        · have := L8.se _ _ e hin; rw [hCL] at this; cases this
    obtain ⟨w1, w2, w3, w4⟩ := fresh fCL
    refine ⟨CL, rfl, ⟨_, SqL.of upd_same⟩, for_it walk_list (fun j σ H' => ∃ v8 v9, ∃ rf : List (Str × Str), σ = [some (.ref t), some (.ref S), some (.str tab.n), some (.ref a.c), some (.ref NL), v5, some (.ref OL), v7, v8, v9] ∧ Lim H H' t c cs a OL os conds un rf ∧ rf.length ≤ 4 ∧ (rf.map (·.1)).Nodup ∧ (∀ p ∈ rf, p.1 ∈ ((colNs tab.cols).drop 1).take j) ∧ (∀ p ∈ rf, ∃ col ∈ tab.cols.drop 1, col.n = p.1 ∧ p.2 ≠ tab.n ∧ ∃ f ∈ frOf s, f.1 = p.2 ∧ ∃ kc, f.2[0]? = some kc ∧ kc.k = col.k) ∧ H' CL = some (.lst (xc.drop 1))) ⟨_, _, [], rfl, L8.step e9, by decide, List.nodup_nil, (by intro x hx; cases hx), (by intro x hx; cases hx), upd_same⟩ (fun j σ H' _ ⟨_, _, _, _, _, _, _, _, _, e⟩ => SqL.of e) ?_ ?_⟩
    · rintro j x σ H9 H9' hj ⟨v8, v9, rf, rfl, L9, l9, nd9, k9, rc9, C9⟩ ⟨rfl, ex⟩
      have ex1 : xc[j + 1]? = some x := by rw [List.getElem?_drop] at ex; rw [show j + 1 = 1 + j by omega]; exact ex
      have hjl : j + 1 < tab.cols.length := by rw [← lx]; exact (List.getElem?_eq_some_iff.mp ex1).1
      have ecol : tab.cols[j + 1]? = some tab.cols[j + 1] := List.getElem?_eq_getElem hjl
      obtain ⟨xs', ca, u1, u2, u3⟩ := (D.co).get ecol
      have hxc : xs' = xc := by
        have := L8.se _ _ u1 (by
          simp only [List.mem_cons, List.not_mem_nil, or_false, not_or]
          exact ⟨T.notL u1, n1, n2, n3⟩)
        rw [g6] at this
        cases this
        rfl
      rw [hxc, ex1] at u2
      cases u2
      have hca : ∀ {H' : Hp} {rf' : List (Str × Str)}, Lim H H' t c cs a OL os conds un rf' → H' ca = some (.tup [.str tab.cols[j + 1].n, .str tab.cols[j + 1].k, .bl tab.cols[j + 1].b]) := fun L => L.kt _ _ u3
      have mono : ∀ p ∈ rf, p.1 ∈ ((colNs tab.cols).drop 1).take (j + 1) := fun p hp => by rw [List.take_add_one]; exact List.mem_append.mpr (.inl (k9 p hp))
      have skip : ∀ (H' : Hp) (v9 : Option V), Lim H H' t c cs a OL os conds un rf → H' CL = some (.lst (xc.drop 1)) → ∃ v8 v9', ∃ rf' : List (Str × Str), [some (V.ref t), some (V.ref S), some (V.str tab.n), some (V.ref a.c), some (V.ref NL), v5, some (V.ref OL), v7, some (V.ref ca), v9] = [some (V.ref t), some (V.ref S), some (V.str tab.n), some (V.ref a.c), some (V.ref NL), v5, some (V.ref OL), v7, v8, v9'] ∧ Lim H H' t c cs a OL os conds un rf' ∧ rf'.length ≤ 4 ∧ (rf'.map (·.1)).Nodup ∧ (∀ p ∈ rf', p.1 ∈ ((colNs tab.cols).drop 1).take (j + 1)) ∧ (∀ p ∈ rf', ∃ col ∈ tab.cols.drop 1, col.n = p.1 ∧ p.2 ≠ tab.n ∧ ∃ f ∈ frOf s, f.1 = p.2 ∧ ∃ kc, f.2[0]? = some kc ∧ kc.k = col.k) ∧ H' CL = some (.lst (xc.drop 1)) :=
        fun H' v9 L h => ⟨_, _, rf, rfl, L, l9, nd9, mono, rc9, h⟩
      refine ⟨_, rfl, (by show 0 ≤ sizeLine; decide), fun pe hpe => ?_⟩
      have e10 := same_new hpe (.lst [])
      have L10 := L9.step e10
      have C10 := e10 _ _ C9
      have sok : ∀ x ∈ os, PySem.PyData.strOk x = true := fun x hx => by
        obtain ⟨p, hp, e⟩ := sch_in (ho x hx).1
        rw [← e]
        exact (hnk p hp).1.str
      refine ⟨.list (os.map PyData.str), .list [], .lst (SqL.of L10.ol) (strs_dp _), .lst (SqL.of upd_same) .nil, strs_shaped sok, rfl, _, rfl, ?_⟩
      rw [strs_eqv]
      refine ite2 (fun hne => ?_) (fun _ => skip _ _ L10 C10)
      have hpos : 0 < os.length := by
        cases os with
        | nil => cases hne
        | cons y r => exact Nat.succ_pos _
      refine ⟨_, rfl, t, c, cs, 3, rfl, L10.T, by decide, by decide +kernel, fun d H11 d0 d1 T11 s11 => ⟨rfl, _, rfl, ?_⟩⟩
      have L11 := L10.stepX T11 s11
      have C11 := s11 _ _ C10 w4
      refine ifD (fun _ => ?_) (fun _ => skip _ _ L11 C11)
      obtain ⟨g1, g2, g3, g4, g5, g6', _⟩ := L11.see A hm htk
      obtain ⟨ys', r3, r4⟩ := L11.rf
      have lr : ys'.length = rf.length := by rw [r4.length, List.length_map]
      refine ⟨_, rfl, _, rfl, S, _, rfl, g1, a.d, _, rfl, g5, a.r, _, rfl, .inl (SqL.of r3), _, _, rfl, rfl, _, rfl, ?_⟩
      refine ifD (fun h4 => ?_) (fun _ => skip _ _ L11 C11)
      refine ⟨_, rfl, _, rfl, _, rfl, OL, _, rfl, .inl (SqL.of L11.ol), t, c, cs, ((os.map V.str).length : Int), rfl, L11.T, by rw [List.length_map]; omega, ?_, fun g H12 gg0 gg1 T12 s12 => ?_⟩
      · have b9 : (2 : Nat) ^ 9000 = 2 ^ 7 * 2 ^ 8993 := by rw [← Nat.pow_add]
        have b8 : 0 < (2 : Nat) ^ 8993 := Nat.pow_pos (by decide)
        rw [b9]
        have : (((os.map V.str).length : Int)).natAbs = os.length := by rw [List.length_map]; omega
        omega
      have L12 := L11.stepX T12 s12
      have C12 := s12 _ _ C11 w4
      rw [List.length_map] at gg1
      have hgl : g.toNat < os.length := by omega
      have eo : os[g.toNat]? = some os[g.toNat] := List.getElem?_eq_getElem hgl
      have hmo := List.getElem_mem hgl
      generalize os[g.toNat] = oth at eo hmo
      obtain ⟨hin, hneq⟩ := ho _ hmo
      obtain ⟨p, hp, ep⟩ := sch_in hin
      subst ep
      refine ⟨OL, _, g, _, rfl, rfl, SqL.of L12.ol, at_of (j := g.toNat) (by omega) (by rw [List.getElem?_map, eo]; rfl), ?_⟩
      obtain ⟨g1, g2, g3, g4, g5, g6', gq⟩ := L12.see A hm htk
      obtain ⟨q1, q2, q3⟩ := gq p hp
      have hp0 : p.2.cols[0]? = some (p.2.cols[0]'((hnk p hp).2)) := List.getElem?_eq_getElem _
      obtain ⟨xq, qa, z1, z2, z3⟩ := q3.get hp0
      generalize p.2.cols[0]'((hnk p hp).2) = kc at hp0 z3
      refine ⟨_, rfl, _, rfl, S, _, rfl, q1, p.1.d, _, rfl, q2, p.1.c, _, 0, _, rfl, rfl, SqL.of z1, atI_nat (j := 0) z2, qa, _, 1, _, rfl, rfl, SqT.of z3, atI_nat (j := 1) rfl, _, rfl, ca, _, 1, _, rfl, rfl, SqT.of (hca L12), atI_nat (j := 1) rfl, rfl, _, rfl, ?_⟩
      refine ifD (fun hkk => ?_) (fun _ => skip _ _ L12 C12)
      obtain ⟨ys2, r5, r6⟩ := L12.rf
      refine ⟨_, rfl, _, rfl, S, _, rfl, g1, a.d, _, rfl, g5, .inl ⟨rfl, _, SqL.of r5⟩, ?_⟩
      refine ⟨_, rfl, ca, _, 0, _, rfl, rfl, SqT.of (hca L12), atI_nat (j := 0) rfl, _, rfl, (by show 2 ≤ sizeLine; decide), fun pt hpt => ?_⟩
      have e13 := same_new hpt (.tup [.str tab.cols[j + 1].n, .str p.2.n])
      have L13 := L12.step e13
      have r7 := e13 _ _ r5
      refine ⟨a.r, ys2, _, rfl, rfl, r7, (by rw [r6.length, List.length_map]; exact small1000 (by omega)), ?_⟩
      have ku : KeepT (upd H12 pt (.tup [.str tab.cols[j + 1].n, .str p.2.n])) (upd (upd H12 pt (.tup [.str tab.cols[j + 1].n, .str p.2.n])) a.r (.lst (ys2 ++ [.ref pt]))) := KeepT.upd (fun zs q => by rw [r7] at q; cases q)
      obtain ⟨xs3, v1, v2⟩ := L13.ch
      have enm : ((colNs tab.cols).drop 1)[j]? = some tab.cols[j + 1].n := by
        rw [List.getElem?_drop, show 1 + j = j + 1 by omega]
        unfold colNs
        rw [List.getElem?_map, ecol]
        rfl
      refine ⟨_, _, rf ++ [(tab.cols[j + 1].n, p.2.n)], rfl, ⟨L13.T.upd rt' cr.symm, L13.kt.trans ku, SameE.upd (by simp) _ L13.se, by rw [upd_ne y3]; exact L13.ol, ⟨xs3, by rw [upd_ne n5]; exact v1, v2.mono ku⟩, by rw [upd_ne n6]; exact L13.un, ⟨ys2 ++ [.ref pt], upd_same, ?_⟩⟩, by rw [List.length_append, List.length_singleton]; omega, ?_, ?_, ?_, by rw [upd_ne w3]; exact e13 _ _ C12⟩
      · rw [List.map_append]
        exact TpL.snoc ((r6.mono (KeepT.of e13)).mono ku) (rf_mk (ku _ _ upd_same))
      · rw [List.map_append]
        refine List.nodup_append.mpr ⟨nd9, by simp, fun y hy w hw => ?_⟩
        have : w = tab.cols[j + 1].n := by simpa using hw
        subst this
        rintro rfl
        obtain ⟨pp, hpp, epp⟩ := List.mem_map.mp hy
        have hkk9 := k9 pp hpp
        rw [epp] at hkk9
        obtain ⟨i0, hi0, ei⟩ := List.getElem_of_mem hkk9
        rw [List.length_take] at hi0
        rw [List.getElem_take] at ei
        have ndn : ((colNs tab.cols).drop 1).Nodup := bare.co.nd.sublist (List.drop_sublist _ _)
        have b1 : ((colNs tab.cols).drop 1)[i0]? = some tab.cols[j + 1].n := by rw [List.getElem?_eq_getElem (by omega), ei]
        have := nd_ix ndn b1 enm
        omega
      · intro y hy
        rcases List.mem_append.mp hy with hy | hy
        · exact mono y hy
        · rw [List.mem_singleton.mp hy, List.take_add_one, enm]
          exact List.mem_append.mpr (.inr (by simp))
      · intro y hy
        rcases List.mem_append.mp hy with hy | hy
        · exact rc9 y hy
        · rw [List.mem_singleton.mp hy]
          refine ⟨tab.cols[j + 1], ?_, rfl, hneq, (p.2.n, p.2.cols), List.mem_map.mpr ⟨p, hp, rfl⟩, rfl, kc, hp0, V.str.inj hkk⟩
          refine List.mem_of_getElem? (i := j) ?_
          rw [List.getElem?_drop, show 1 + j = j + 1 by omega]
          exact ecol
    · rintro σ H9 ⟨v8, v9, rf, rfl, L9, l9, nd9, k9, rc9, C9⟩
      obtain ⟨g1, g2, g3, g4, g5, g6', _⟩ := L9.see A hm htk
      obtain ⟨xs3, v1, v2⟩ := L9.ch
      obtain ⟨ys3, v3, v4⟩ := L9.rf
      have hd9 : H9 a.d = some (.dK (descD a)) := L9.se _ _ D.dk (by
        simp only [List.mem_cons, List.not_mem_nil, or_false, not_or]
        exact ⟨a2 _ hm, ne_of D.dk hk0 (by intro z; cases z), ne_of D.dk hu0 (by intro z; cases z), ne_of D.dk hr0 (by intro z; cases z)⟩)
      exact q ⟨tab.n, tab.cols, conds, un, rf⟩ H9 rfl rfl ⟨bare.nm, bare.co, bare.l0, bare.l5, by show conds.length ≤ 2; omega, k7, l8, nd8, hun, l9, nd9, rc9⟩ ⟨hd9, g6', ⟨xs3, v1, v2⟩, L9.un, ⟨ys3, v3, v4⟩⟩ L9.T L9.kt L9.se)

theorem small_nat {x : Int} (h : 0 ≤ x) (h2 : x ≤ 1000) : x.natAbs < 2 ^ 9000 := by
  have h1 : x.natAbs ≤ 1000 := by omega
  exact Nat.lt_of_le_of_lt h1 (by decide +kernel)
theorem ok_law_schema {f : Addr} {fd : FuncData} (k : Kn K mg "_law_schema" s_law_schema ["tape", "least", "most"] f fd) (z : Z mg)
    {g_law_take : Addr} {gd_law_take : FuncData} (c_law_take : Cal P w K mg base 1 "_law_take" ["tape", "many"] (spTake) g_law_take gd_law_take)
    {g_law_name : Addr} {gd_law_name : FuncData} (c_law_name : Cal P w K mg base 2 "_law_name" ["tape", "used"] (spName) g_law_name gd_law_name)
    {g_law_table : Addr} {gd_law_table : FuncData} (c_law_table : Cal P w K mg base 1 "_law_table" ["columns"] (spTable) g_law_table gd_law_table)
    {g_law_columns : Addr} {gd_law_columns : FuncData} (c_law_columns : Cal P w K mg base 3 "_law_columns" ["tape", "used", "many"] (spColumns) g_law_columns gd_law_columns)
    {g_law_limits : Addr} {gd_law_limits : FuncData} (c_law_limits : Cal P w K mg base 7 "_law_limits" ["tape", "schema", "table"] (spLimits) g_law_limits gd_law_limits) :
    Cal P w K mg base 8 "_law_schema" ["tape", "least", "most"] (spSchema) f fd := k.cal (by
  refine k.F.ok sc_law_schema (fun vs H Q E h => ?_) (fun cdv A outer s H vs Q E hr h => ?_)
  · obtain ⟨t, c, cs, least, most, rfl, _⟩ := h; rfl
  · obtain ⟨t, c, cs, least, most, rfl, T, b0, b1, b6, q⟩ := h
    have hu := hu_of hr
    refine ⟨_, (pss_cons (ps_set (i := 3) sc_law_schema.nd rfl (Or.inl rfl) (pe_lst pa_nil))
        (pss_cons (ps_set (i := 4) sc_law_schema.nd rfl (Or.inl rfl) pe_dnewK)
        (pss_cons (ps_for PassesOwn.never rfl (pi_range1 (by rfl) z.range (pa_cons (pe_op op_add (pv 1) (pe_call c_law_take.G (hr.mono (by decide)) (by rfl) c_law_take.m c_law_take.kp c_law_take.b .nil pass0 (pa_cons (pv 0) (pa_cons (pe_op op_add (pe_op op_sub (pv 2) (pv 1)) pe_int) pa_nil)))) pa_nil)) (pg_name (i := 5) sc_law_schema.nd rfl (Or.inl rfl))
        (pss_one (ps_dput hu (pv 4) (pe_call c_law_name.G (hr.mono (by decide)) (by rfl) c_law_name.m c_law_name.kp c_law_name.b .nil pass0 (pa_cons (pv 0) (pa_cons (pv 3) pa_nil))) (pe_call c_law_table.G (hr.mono (by decide)) (by rfl) c_law_table.m c_law_table.kp c_law_table.b .nil pass0 (pa_cons (pe_call c_law_columns.G (hr.mono (by decide)) (by rfl) c_law_columns.m c_law_columns.kp c_law_columns.b .nil pass0 (pa_cons (pv 0) (pa_cons (pe_lst pa_nil) (pa_cons (pe_call c_law_take.G (hr.mono (by decide)) (by rfl) c_law_take.m c_law_take.kp c_law_take.b .nil pass0 (pa_cons (pv 0) (pa_cons pe_int pa_nil))) pa_nil)))) pa_nil)) rfl)))
        (pss_cons (ps_for PassesOwn.never rfl (pi_list (pe_callB (call_sortedD rfl) (by rfl) z.sorted (by decide +kernel) (pa_cons (pv 4) pa_nil))) (pg_name (i := 6) sc_law_schema.nd rfl (Or.inl rfl))
        (pss_one (ps_expr (pe_call c_law_limits.G (hr.mono (by decide)) (by rfl) c_law_limits.m c_law_limits.kp c_law_limits.b .nil pass0 (pa_cons (pv 0) (pa_cons (pv 4) (pa_cons (pv 6) pa_nil)))))))
        (pss_one (ps_ret (pv 4))))))), ?_⟩
    refine ⟨(by show 0 ≤ sizeLine; decide), fun U hU => ?_⟩
    refine fun S hS => ?_
    have m1 := same_new hU (.lst [])
    have m2 := same_new hS (.dK [])
    have M := m1.trans m2
    have fS : H S = none := m1.free hS
    have US : U ≠ S := ne_of_none upd_same hS
    have hUt := T.fresh hU
    have hSt := T.fresh fS
    refine ⟨_, rfl, _, rfl, _, rfl, _, rfl, _, _, rfl, rfl, _, _, rfl, rfl, t, c, cs, most - least + 1, rfl, T.mono M, by omega, small_nat (by omega) (by omega), fun d H1 d0 d1 T1 s1 => ?_⟩
    have hU1 : H1 U = some (.lst []) := s1 _ _ (m2 _ _ upd_same) hUt.1
    have hS1 : H1 S = some (.dK []) := s1 _ _ upd_same hSt.1
    refine ⟨_, _, rfl, rfl, _, rfl, by omega, by omega, for_range (lo := 0) (n := (least + d).toNat) (fun i σ H' => ∃ v, ∃ s : Sch, σ = [some (.ref t), some (.int least), some (.int most), some (.ref U), some (.ref S), v, none] ∧ SchAt H' S s t c ∧ TapeAt H' t c cs ∧ H' U = some (.lst ((schN s).map V.str)) ∧ U ∉ schL s ∧ (∀ p ∈ s, TabBare p.2) ∧ s.length = i ∧ SameX t H H' ∧ (∀ b ∈ schL s, H b = none)) ⟨none, [], rfl, ⟨hS1, (by intro p hp; cases hp), List.nodup_nil, ?_, ?_⟩, T1, hU1, (by intro z; cases z), (by intro p hp; cases hp), rfl, (SameX.of M).trans s1, (by intro p hp; cases hp)⟩ ?_ ?_⟩
    · show [t, S].Nodup
      simp only [List.nodup_cons, List.mem_cons, List.not_mem_nil, or_false, not_false_eq_true, List.nodup_nil, and_true]
      exact hSt.1.symm
    · show [c].Nodup
      simp
    · rintro i σ H2 hi ⟨v, s, rfl, A, T2, hU2, nU, bare, ls, S2, new⟩
      have ln : (schN s).length = i := by unfold schN; rw [List.length_map]; exact ls
      refine ⟨_, rfl, (by show 0 ≤ sizeLine; decide), fun E hE => ?_⟩
      have e3 := same_new hE (.lst [])
      refine ⟨_, rfl, t, c, cs, 5, rfl, T2.mono e3, by decide, by decide +kernel, fun d H3 d0 d1 T3 s3 => ?_⟩
      have fE := T2.fresh hE
      refine ⟨t, c, E, cs, [], d, rfl, T3, s3 _ _ upd_same fE.1, fE.2.symm, d0, by omega, (by show ((0 : Nat) : Int) + d ≤ 25; omega), fun L cols xs H4 _ hL rL lc okc T4 _ s4 => ?_⟩
      refine ⟨L, cols, rfl, ⟨xs, hL, rL⟩, fun a H5 D5 s5 fd fl ndA => ?_⟩
      have X24 : ∀ b o, H2 b = some o → b ≠ t → H4 b = some o := fun b o hb ht => s4 _ _ (s3 _ _ (e3 _ _ hb) ht) ht (ne_of_none hb hE)
      have X25 : SameX t H2 H5 := fun b o hb ht => s5 _ _ (X24 b o hb ht)
      have ht4 : ∃ o, H4 t = some o := by obtain ⟨_, _, _, _, e, _⟩ := T4.dk; exact ⟨_, e⟩
      have back : ∀ {b : Addr}, H4 b = none → b ≠ t ∧ H2 b = none := fun {b} hb => by
        have h1 : b ≠ t := fun z => by obtain ⟨o, e⟩ := ht4; rw [z, e] at hb; cases hb
        refine ⟨h1, ?_⟩
        cases z : H2 b with
        | none => rfl
        | some o => have := X24 b o z h1; rw [hb] at this; cases this
      have T5 := T4.mono s5
      have A5 := A.monoX T2 X25
      have hU5 := X25 _ _ hU2 hUt.1
      refine ⟨_, rfl, _, rfl, _, rfl, t, c, U, cs, schN s, rfl, T5, hU5, hUt.2.symm, by omega, fun z H6 nk nf T6 hU6 s6 => ?_⟩
      have A6 := A5.monoXY T5 hU5 nU s6
      have hdk : H5 a.d = some (.dK (descD a)) := (D5 z).dk
      have aU : a.d ≠ U := fun e => by rw [e, hU5] at hdk; cases hdk
      have bU : ∀ b ∈ adL a, b ≠ U := fun b hb e => by
        have := (back (fl b hb)).2
        rw [e, hU2] at this; cases this
      have D6 : DescAt H6 a ⟨z, cols, [], [], []⟩ := (D5 z).frame (KeepT.ofXY T5 hU5 s6) (fun o e => s6 _ _ e (back fd).1 aU) (fun b hb o e => s6 _ _ e (back (fl b hb)).1 (bU b hb))
      refine ⟨S, _, rfl, DPut.k (k := (Sum.inr z : Key)) A6.sk (by unfold schK; rw [List.length_map]; exact Nat.lt_of_lt_of_le (by omega : s.length < 1000) (by show 1000 ≤ sizeLine; decide)), ?_⟩
      rw [schK_new (s := s) (a := a) (tab := ⟨z, cols, [], [], []⟩) nf]
      refine ⟨_, s ++ [(a, ⟨z, cols, [], [], []⟩)], rfl, A6.add D6 nf ?_ ?_ ndA, T6.upd hSt.1 hSt.2, ?_, ?_, ?_, (by rw [List.length_append, List.length_singleton, ls]), ?_, ?_⟩
      · refine ⟨(back fd).1, fun e => ?_, fun p hp e => ?_⟩
        · have := (back fd).2; rw [e, A.sk] at this; cases this
        · have := (back fd).2; rw [e, (A.ds p hp).dk] at this; cases this
      · refine fun b hb => ⟨fun e => ?_, fun e => ?_⟩
        · have := (back (fl b hb)).2; rw [e, T2.ls] at this; cases this
        · obtain ⟨p, hp, hbp⟩ := List.mem_flatMap.mp e
          obtain ⟨xs', g⟩ := (A.ds p hp).isL b hbp
          have := (back (fl b hb)).2; rw [g] at this; cases this
      · rw [upd_ne US, hU6]
        have : schN (s ++ [(a, ⟨z, cols, [], [], []⟩)]) = schN s ++ [z] := by unfold schN; rw [List.map_append]; rfl
        rw [this]
      · intro e
        unfold schL at e
        rw [List.flatMap_append] at e
        rcases List.mem_append.mp e with e | e
        · exact nU e
        · exact bU U (by simpa using e) rfl
      · intro p hp
        rcases List.mem_append.mp hp with hp | hp
        · exact bare p hp
        · rw [List.mem_singleton.mp hp]
          exact ⟨nk, okc, by show 1 ≤ cols.length; omega, by show cols.length ≤ 5; omega, rfl, rfl, rfl⟩
      · intro b o hb ht
        have nb : b ≠ U := ne_of_none hb hU
        rw [upd_ne (ne_of_none hb fS)]
        exact s6 _ _ (X25 _ _ (S2 _ _ hb ht) ht) ht nb
      · intro b hb
        unfold schL at hb
        rw [List.flatMap_append] at hb
        rcases List.mem_append.mp hb with hb | hb
        · exact new b hb
        · have hb : b ∈ adL a := by simpa using hb
          have h2 := back (fl b hb)
          exact S2.free h2.1 h2.2
    rintro σ H2 ⟨v, s, rfl, A, T2, hU2, nU, bare, ls, S2, new⟩
    have l6 : s.length ≤ 6 := by omega
    refine ⟨_, rfl, S, schK s, schN s, rfl, .inl A.sk, sch_keys s, (by unfold schN; rw [List.length_map]; omega), fun ys P hper _ hP => ?_⟩
    have e3 := same_new hP (.lst (ys.map V.str))
    have ndy : ys.Nodup := hper.nodup_iff.mpr A.nm
    refine ⟨P, rfl, ⟨_, SqL.of upd_same⟩, for_it walk_list (fun j σ H' => ∃ w, ∃ s' : Sch, σ = [some (.ref t), some (.int least), some (.int most), some (.ref U), some (.ref S), v, w] ∧ Half H H' t c cs S s s' (ys.take j) ∧ H' P = some (.lst (ys.map V.str))) ⟨none, s, rfl, ⟨A.monoX T2 (SameX.of e3), T2.mono e3, rfl, rfl, (by intro p hp hd; cases hd), fun p hp _ => bare p hp, S2.trans (SameX.of e3), new⟩, upd_same⟩ (fun j σ H' _ ⟨_, _, _, _, e⟩ => SqL.of e) ?_ ?_⟩
    · rintro j x σ H3 H3' hj ⟨w, s', rfl, L, hP3⟩ ⟨rfl, ex⟩
      rw [List.length_map] at hj
      have ey : ys[j]? = some ys[j] := List.getElem?_eq_getElem hj
      rw [List.getElem?_map, ey] at ex
      cases ex
      have hin : ys[j] ∈ schN s' := by rw [schN_of L.fr]; exact hper.mem_iff.mp (List.getElem_mem hj)
      obtain ⟨⟨a, tab⟩, hm, hn⟩ := sch_in hin
      have hn : tab.n = ys[j] := hn
      have hnd : tab.n ∉ ys.take j := by
        rw [hn]
        intro z
        obtain ⟨i0, hi0, ei⟩ := List.getElem_of_mem z
        rw [List.length_take] at hi0
        rw [List.getElem_take] at ei
        have b1 : ys[i0]? = some ys[j] := by rw [List.getElem?_eq_getElem (by omega), ei]
        have := nd_ix ndy b1 ey
        omega
      have l6' : s'.length ≤ 6 := by have := congrArg List.length L.ads; simp only [List.length_map] at this; omega
      refine ⟨_, rfl, _, rfl, _, rfl, t, c, S, cs, s', a, tab, (by rw [hn]; rfl), L.T, L.A, l6', fun p hp => ?_, hm, L.ba _ hm hnd, fun tab' H4 hn' hc' ok D T4 kt se => ?_⟩
      · by_cases hd : p.2.n ∈ ys.take j
        · have k := L.ok p hp hd; exact ⟨k.nm, k.l0⟩
        · have k := L.ba p hp hd; exact ⟨k.nm, k.l0⟩
      obtain ⟨s2, L2⟩ := L.put hm hn' hc' ok D T4 kt se
      have et : ys.take (j + 1) = ys.take j ++ [tab.n] := by rw [List.take_add_one, ey, hn]; rfl
      refine ⟨_, s2, rfl, by rw [et]; exact L2, se _ _ hP3 fun hc => ?_⟩
      have hP0 : H2 P = none := hP
      obtain ⟨_, _, _, _, et2, _⟩ := T2.dk
      have dd : ∀ b ∈ adL a, H2 b ≠ none := fun b hb z => by
        have e1 : b ∈ schL s := by rw [← schL_of L.ads]; exact mem_flat hm hb
        obtain ⟨p, hp, hbp⟩ := List.mem_flatMap.mp e1
        obtain ⟨xs', g⟩ := (A.ds p hp).isL b hbp
        rw [g] at z; cases z
      simp only [List.mem_cons, List.not_mem_nil, or_false] at hc
      rcases hc with z | z | z | z
      · rw [z, et2] at hP0; cases hP0
      · exact dd a.k (by simp [adL]) (z ▸ hP0)
      · exact dd a.u (by simp [adL]) (z ▸ hP0)
      · exact dd a.r (by simp [adL]) (z ▸ hP0)
    rintro σ H3 ⟨w, s', rfl, L, hP3⟩
    rw [List.length_map, List.take_length] at L
    have ls' : s'.length = s.length := by have := congrArg List.length L.ads; simpa using this
    refine ⟨_, rfl, q S s' H3 L.A (fun p hp => ?_) (by omega) (by omega) L.T L.se⟩
    rw [L.fr]
    refine L.ok p hp (hper.mem_iff.mpr ?_)
    rw [← schN_of L.fr]
    exact List.mem_map.mpr ⟨p, hp, rfl⟩)
theorem ok_law_rest {f : Addr} {fd : FuncData} (k : Kn K mg "_law_rest" s_law_rest ["tape", "columns"] f fd) (z : Z mg)
    {g_law_value : Addr} {gd_law_value : FuncData} (c_law_value : Cal P w K mg base 4 "_law_value" ["tape", "kind", "nullable"] (spVal) g_law_value gd_law_value) :
    Cal P w K mg base 5 "_law_rest" ["tape", "columns"] (spRest) f fd := k.cal (by
  refine k.F.ok sc_law_rest (fun vs H Q E h => ?_) (fun cdv A outer s H vs Q E hr h => ?_)
  · obtain ⟨t, c, L, cs, cols, rfl, _⟩ := h; rfl
  · obtain ⟨t, c, L, cs, cols, rfl, T, C, hp0, hl, q⟩ := h
    refine ⟨_, (pss_one (ps_ret (pe_callTy call_tuple_of (by rfl) z.tuple (by decide +kernel) (pa_cons (pe_lc (own := [("column", 2)]) (g := gName 2) (tt := tYes) (by rfl) sc_law_rest.nd (pi_list (pe_slice sl_list (pv 1) (po_some pe_int) po_none)) (blkOk_by (own := [("column", 2)]) (N := ["tape", "columns", "column"]) (sc := defScope s_law_rest) (by decide +kernel)) (fun _ _ _ _ _ => pg_name (i := 2) sc_law_rest.nd rfl (Or.inl rfl)) (fun _ _ _ _ _ => pts_nil) (fun _ _ _ _ _ => (pe_call c_law_value.G (hr.mono (by decide)) (by rfl) c_law_value.m c_law_value.kp c_law_value.b .nil pass0 (pa_cons (pv 0) (pa_cons (pe_ix (r := rIxT K) ix_tup (pv 2) pe_int (fun _ _ => rfl)) (pa_cons (pe_ix (r := rIxT K) ix_tup (pv 2) pe_int (fun _ _ => rfl)) pa_nil)))))) pa_nil)))), ?_⟩
    obtain ⟨xs, h1, h2⟩ := id C
    have hx : xs.length = cols.length := by rw [h2.length, List.length_map]
    refine ⟨_, rfl, _, rfl, L, _, rfl, SqL.of h1, fun S hS => ?_⟩
    rw [cut_tail]
    have tS := T.fresh hS
    refine ⟨S, rfl, ⟨_, SqL.of upd_same⟩, fun D hD => lc_list (K := K) (a := S) (xs := xs.drop 1) (fun i H' => ∃ vs, H' D = some (.lst vs) ∧ vs.length = i ∧ (∀ (j : Nat) (col : Col) (v : V), cols[j + 1]? = some col → vs[j]? = some v → ValOf col.k col.b v) ∧ TapeAt H' t c cs ∧ SameX t H H' ∧ H' S = some (.lst (xs.drop 1))) ?_ (fun i H' _ ⟨_, _, _, _, _, _, e⟩ => SqL.of e) ?_ ?_⟩
    · have tS' := T.mono (same_new hS (.lst (xs.drop 1)))
      exact ⟨[], upd_same, rfl, (fun j col v _ h => by cases h), tS'.mono (same_new hD _), SameX.of ((same_new hS _).trans (same_new hD _)), same_new hD _ _ _ upd_same⟩
    · rintro i x H1 hi ⟨vs, hD1, l1, f1, T1, s1, hS1⟩
      have tD := (T.mono (same_new hS (.lst (xs.drop 1)))).fresh hD
      have hi2 : xs[i + 1]? = some x := by rw [List.getElem?_drop] at hi; rw [show i + 1 = 1 + i by omega]; exact hi
      have hil : i + 1 < cols.length := by rw [← hx]; exact (List.getElem?_eq_some_iff.mp hi2).1
      obtain ⟨xs', a, k1, k2, k3⟩ := C.get (List.getElem?_eq_getElem hil)
      rw [h1] at k1
      cases k1
      rw [hi2] at k2
      cases k2
      have k4 := KeepT.ofX T s1 _ _ k3
      refine ⟨rfl, _, rfl, _, rfl, a, _, 1, _, rfl, rfl, SqT.of k4, atI_nat (j := 1) rfl, _, rfl, a, _, 2, _, rfl, rfl, SqT.of k4, atI_nat (j := 2) rfl, t, c, cs, _, _, rfl, T1, fun v H2 hv T2 s2 => ?_⟩
      have hSD : S ≠ D := ne_of_none upd_same hD
      have hD0 : H D = none := by
        cases e : H D with
        | none => rfl
        | some o => have := same_new hS (.lst (xs.drop 1)) _ _ e; rw [hD] at this; cases this
      refine ⟨_, s2 _ _ hD1 tD.1, (by exact small1000 (by omega)), vs ++ [v], upd_same, by simp [l1], ?_, T2.upd tD.1 tD.2, samex_upd hD0 _ (s1.trans s2), ?_⟩
      · intro j col w hc hw
        by_cases hj : j < vs.length
        · rw [List.getElem?_append_left hj] at hw
          exact f1 j col w hc hw
        · have hj2 : j = vs.length := by
            have := (List.getElem?_eq_some_iff.mp hw).1
            rw [List.length_append, List.length_singleton] at this
            omega
          subst hj2
          rw [List.getElem?_append_right (Nat.le_refl _), Nat.sub_self] at hw
          cases hw
          rw [l1, List.getElem?_eq_getElem hil] at hc
          cases hc
          exact hv
      · rw [upd_ne hSD]
        exact s2 _ _ hS1 (by
          obtain ⟨_, _, _, _, e, _⟩ := T1.dk
          exact ne_of hS1 e (by intro z; cases z))
    · rintro H1 ⟨vs, hD1, l1, f1, T1, s1, hS1⟩
      refine ⟨D, vs, rfl, .inl ⟨SqL.of hD1, fun p hp => ?_⟩⟩
      have hpt := T1.fresh hp
      refine q p vs _ (s1.free hpt.1 hp) upd_same ⟨?_, f1⟩ (T1.mono (same_new hp _)) (s1.trans (SameX.of (same_new hp _)))
      rw [l1, List.length_drop]
      omega)
theorem ok_law_rows {f : Addr} {fd : FuncData} (k : Kn K mg "_law_rows" s_law_rows ["tape", "columns", "most"] f fd) (z : Z mg)
    {g_law_take : Addr} {gd_law_take : FuncData} (c_law_take : Cal P w K mg base 1 "_law_take" ["tape", "many"] (spTake) g_law_take gd_law_take)
    {g_law_value : Addr} {gd_law_value : FuncData} (c_law_value : Cal P w K mg base 4 "_law_value" ["tape", "kind", "nullable"] (spVal) g_law_value gd_law_value)
    {g_law_rest : Addr} {gd_law_rest : FuncData} (c_law_rest : Cal P w K mg base 5 "_law_rest" ["tape", "columns"] (spRest) g_law_rest gd_law_rest) :
    Cal P w K mg base 6 "_law_rows" ["tape", "columns", "most"] (spRowsDraw) f fd := k.cal (by
  refine k.F.ok sc_law_rows (fun vs H Q E h => ?_) (fun cdv A outer s H vs Q E hr h => ?_)
  · obtain ⟨t, c, L, cs, cols, most, rfl, _⟩ := h; rfl
  · obtain ⟨t, c, L, cs, cols, most, rfl, T, C, c0, c100, m0, m20, q⟩ := h
    have hu := hu_of hr
    refine ⟨_, (pss_cons (ps_set (i := 3) sc_law_rows.nd rfl (Or.inl rfl) pe_dnewK)
        (pss_cons (ps_for PassesOwn.never rfl (pi_range1 (by rfl) z.range (pa_cons (pe_call c_law_take.G (hr.mono (by decide)) (by rfl) c_law_take.m c_law_take.kp c_law_take.b .nil pass0 (pa_cons (pv 0) (pa_cons (pe_op op_add (pv 2) pe_int) pa_nil))) pa_nil)) (pg_name (i := 4) sc_law_rows.nd rfl (Or.inl rfl))
        (pss_one (ps_dput hu (pv 3) (pe_call c_law_value.G (hr.mono (by decide)) (by rfl) c_law_value.m c_law_value.kp c_law_value.b .nil pass0 (pa_cons (pv 0) (pa_cons (pe_ix ix_tup (pe_ix ix_list (pv 1) pe_int (fun _ _ => rfl)) pe_int (fun _ _ => rfl)) (pa_cons pe_bl pa_nil)))) (pe_call c_law_rest.G (hr.mono (by decide)) (by rfl) c_law_rest.m c_law_rest.kp c_law_rest.b .nil pass0 (pa_cons (pv 0) (pa_cons (pv 1) pa_nil))) rfl)))
        (pss_one (ps_ret (pv 3))))), ?_⟩
    refine fun M hM => ?_
    have e1 := same_new hM (.dK [])
    have fM := T.fresh hM
    have T1 := T.mono e1
    have C1 : ColsAt (upd H M (.dK [])) L cols := C.mono (KeepT.of e1) (fun o => e1 _ _)
    refine ⟨_, rfl, _, rfl, _, _, rfl, rfl, t, c, cs, most + 1, rfl, T1, by omega, natSm (by omega) (by omega), fun d H2 d0 d1 T2 s2 => ?_⟩
    refine ⟨_, rfl, by omega, by omega, for_range (lo := 0) (n := d.toNat) (fun i σ H' => ∃ v, ∃ rs : List Ro, σ = [some (.ref t), some (.ref L), some (.int most), some (.ref M), v] ∧ TAt H' M rs ∧ (∀ r ∈ rs, RowFit cols r) ∧ rs.length ≤ i ∧ TapeAt H' t c cs ∧ ColsAt H' L cols ∧ SameX t H H') ⟨none, [], rfl, ⟨s2 _ _ upd_same fM.1, (by intro r h; cases h), List.nodup_nil⟩, (by intro r h; cases h), Nat.le_refl _, T2, ?_, (SameX.of e1).trans s2⟩ ?_ ?_⟩
    · obtain ⟨xs, h1, h2⟩ := C1
      exact ⟨xs, s2 _ _ h1 (T1.notL h1), h2.mono (KeepT.ofX T1 s2)⟩
    · rintro i σ H3 hi ⟨v, rs, rfl, A3, f3, l3, T3, C3, s3⟩
      have ecol : cols[0]? = some cols[0] := List.getElem?_eq_getElem c0
      refine ⟨_, rfl, _, rfl, t, c, L, cs, cols, rfl, T3, C3, c0, c100, fun pr ws H4 hp0 hp fit T4 s4 => ?_⟩
      have ML : L ≠ t := by obtain ⟨xs, h1, _⟩ := C3; exact T3.notL h1
      have C4 : ColsAt H4 L cols := by
        obtain ⟨xs, h1, h2⟩ := C3
        exact ⟨xs, s4 _ _ h1 ML, h2.mono (KeepT.ofX T3 s4)⟩
      have A4 := A3.mono (KeepT.ofX T3 s4) (fun o h => s4 _ _ h fM.1)
      obtain ⟨xs, a, k1, k2, k3⟩ := C4.get ecol
      refine ⟨_, rfl, _, rfl, _, rfl, L, _, 0, _, rfl, rfl, SqL.of k1, atI_nat (j := 0) k2, a, _, 1, _, rfl, rfl, SqT.of k3, atI_nat (j := 1) rfl, t, c, cs, cols[0].k, false, rfl, T4, fun kv H5 hv T5 s5 => ?_⟩
      have A5 := A4.mono (KeepT.ofX T4 s5) (fun o h => s5 _ _ h fM.1)
      have C5 : ColsAt H5 L cols := by
        obtain ⟨xs, h1, h2⟩ := C4
        exact ⟨xs, s5 _ _ h1 (T4.notL h1), h2.mono (KeepT.ofX T4 s5)⟩
      have hp5 := KeepT.ofX T4 s5 _ _ hp
      have hk := hv.key
      have dp := DPut.k (k := vKey kv) (v := .ref pr) A5.dk (by unfold roK; rw [List.length_map]; exact small1000 (by omega))
      rw [hk] at dp
      refine ⟨M, _, rfl, dp, ?_⟩
      rw [putRo_K rs ⟨vKey kv, pr, ws⟩]
      have ku : KeepT H5 (upd H5 M (.dK (roK (putRo rs ⟨vKey kv, pr, ws⟩)))) := KeepT.lock A5.dk
      refine ⟨_, putRo rs ⟨vKey kv, pr, ws⟩, rfl, ⟨upd_same, fun r hr' => ?_, putRo_nd A5.nd _⟩, fun r hr' => ?_, by have := putRo_len rs ⟨vKey kv, pr, ws⟩; omega, T5.upd fM.1 fM.2, ?_, ?_⟩
      · rcases putRo_mem hr' with ⟨_, ea, ev⟩ | h
        · rw [ea, ev]; exact ku _ _ hp5
        · exact ku _ _ (A5.rt r h)
      · rcases putRo_mem hr' with ⟨ek, ea, ev⟩ | h
        · have := RowFit.mk' (a := pr) ecol hv fit
          refine ⟨fun c' hc' => by rw [ek]; exact this.k c' hc', by rw [ev]; exact this.r⟩
        · exact f3 r h
      · obtain ⟨xs, h1, h2⟩ := C5
        exact ⟨xs, by rw [upd_ne (fun z => by rw [z, A5.dk] at h1; cases h1)]; exact h1, h2.mono ku⟩
      · exact fun b o hb hbt => by
          rw [upd_ne (ne_of_none hb hM)]
          exact s5 _ _ (s4 _ _ (s3 _ _ hb hbt) hbt) hbt
    · rintro σ H3 ⟨v, rs, rfl, A3, f3, l3, T3, C3, s3⟩
      exact ⟨_, rfl, q M rs H3 A3 f3 (by omega) hM T3 s3⟩)
theorem ok_law_state {f : Addr} {fd : FuncData} (k : Kn K mg "_law_state" s_law_state ["tape", "schema", "most"] f fd) (z : Z mg)
    {g_law_rows : Addr} {gd_law_rows : FuncData} (c_law_rows : Cal P w K mg base 6 "_law_rows" ["tape", "columns", "most"] (spRowsDraw) g_law_rows gd_law_rows) :
    Cal P w K mg base 7 "_law_state" ["tape", "schema", "most"] (spState) f fd := k.cal (by
  refine k.F.ok sc_law_state (fun vs H Q E h => ?_) (fun cdv A outer s H vs Q E hr h => ?_)
  · obtain ⟨t, c, S, cs, s, most, rfl, _⟩ := h; rfl
  · obtain ⟨t, c, S, cs, s, most, rfl, T, A, ok, l6, m0, m20, q⟩ := h
    have hu := hu_of hr
    refine ⟨_, (pss_cons (ps_set (i := 3) sc_law_state.nd rfl (Or.inl rfl) pe_dnewK)
        (pss_cons (ps_for PassesOwn.never rfl (pi_list (pe_callB (call_sortedD rfl) (by rfl) z.sorted (by decide +kernel) (pa_cons (pv 1) pa_nil))) (pg_name (i := 4) sc_law_state.nd rfl (Or.inl rfl))
        (pss_one (ps_dput hu (pv 3) (pv 4) (pe_call c_law_rows.G (hr.mono (by decide)) (by rfl) c_law_rows.m c_law_rows.kp c_law_rows.b .nil pass0 (pa_cons (pv 0) (pa_cons (pe_dget hu (pe_dget hu (pv 1) (pv 4) (fun _ _ => rfl)) pe_str (fun _ _ => rfl)) (pa_cons (pv 2) pa_nil)))) rfl)))
        (pss_one (ps_ret (pv 3))))), ?_⟩
    refine fun M hM => ?_
    have e1 := same_new hM (.dK [])
    have fM := T.fresh hM
    have T1 := T.mono e1
    have A1 := A.monoX T (SameX.of e1)
    refine ⟨_, rfl, S, schK s, schN s, rfl, .inl A1.sk, sch_keys s, (by unfold schN; rw [List.length_map]; omega), fun ys P hper _ hP => ?_⟩
    have e2 := same_new hP (.lst (ys.map V.str))
    have fP := T1.fresh hP
    have ndy : ys.Nodup := hper.nodup_iff.mpr A.nm
    have ly : ys.length = s.length := by rw [hper.length_eq]; unfold schN; rw [List.length_map]
    have MP : M ≠ P := ne_of_none upd_same hP
    refine ⟨P, rfl, ⟨_, SqL.of upd_same⟩, for_it walk_list (fun i σ H' => ∃ v, ∃ st : List TS, σ = [some (.ref t), some (.ref S), some (.int most), some (.ref M), v] ∧ H' M = some (.dK (stK st)) ∧ (∀ p ∈ st, TAt H' p.d p.rs) ∧ stN st = ys.take i ∧ (∀ p ∈ st, H p.d = none ∧ p.d ≠ M ∧ p.d ≠ t) ∧ (st.map fun q => q.d).Nodup ∧ (∀ p ∈ s, p.2.n ∈ ys.take i → ∃ q ∈ st, q.n = p.2.n ∧ ∀ r ∈ q.rs, RowFit p.2.cols r) ∧ (∀ p ∈ st, p.rs.length ≤ most.toNat) ∧ TapeAt H' t c cs ∧ SchAt H' S s t c ∧ H' P = some (.lst (ys.map V.str)) ∧ SameX t H H') ⟨none, [], rfl, e2 _ _ upd_same, (by intro p h; cases h), rfl, (by intro p h; cases h), List.nodup_nil, (by intro p _ h; cases h), (by intro p h; cases h), T1.mono e2, A1.monoX T1 (SameX.of e2), upd_same, SameX.of (e1.trans e2)⟩ (fun i σ H' _ ⟨_, _, _, _, _, _, _, _, _, _, _, _, e, _⟩ => SqL.of e) ?_ ?_⟩
    · rintro i x σ H3 H3' hi ⟨v, st, rfl, hM3, hD3, hn3, fr3, dn3, fit3, l3, T3, A3, hP3, s3⟩ ⟨rfl, ex⟩
      rw [List.length_map] at hi
      have ey : ys[i]? = some ys[i] := List.getElem?_eq_getElem hi
      rw [List.getElem?_map, ey] at ex
      cases ex
      have hmy := List.getElem_mem hi
      generalize ys[i] = y at ey hmy
      obtain ⟨p, hp, rfl⟩ := sch_in (hper.mem_iff.mp hmy)
      have D3 := A3.ds p hp
      have okp := ok p hp
      have l5 := okp.l5
      have l0 := okp.l0
      refine ⟨_, rfl, _, rfl, _, rfl, S, _, rfl, A3.desc hp, p.1.d, _, rfl, D3.gc, _, rfl, t, c, p.1.c, cs, p.2.cols, most, rfl, T3, D3.co, by omega, by omega, m0, m20, fun d rs H4 A4 f4 lr d0 T4 s4 => ?_⟩
      have hnot : p.2.n ∉ stN st := by
        rw [hn3]
        intro z
        obtain ⟨j, hj, ej⟩ := List.getElem_of_mem z
        rw [List.length_take] at hj
        rw [List.getElem_take] at ej
        have b1 : ys[j]? = some p.2.n := by rw [List.getElem?_eq_getElem (by omega), ej]
        have := nd_ix ndy b1 ey
        omega
      have hM4 := s4 _ _ hM3 fM.1
      have lst : st.length = i := by
        have := congrArg List.length hn3
        unfold stN at this
        rw [List.length_map, List.length_take] at this
        omega
      have ft : ∀ {b : Addr}, H3' b = none → b ≠ t ∧ H b = none := fun {b} hb => by
        have n1 : b ≠ t := by obtain ⟨_, _, _, _, e, _⟩ := T3.dk; exact (ne_of_none e hb).symm
        refine ⟨n1, ?_⟩
        cases e : H b with
        | none => rfl
        | some o => have := s3 _ _ e n1; rw [hb] at this; cases this
      have dM : d ≠ M := (ne_of_none hM3 d0).symm
      refine ⟨_, rfl, _, rfl, M, _, rfl, DPut.k (k := (Sum.inr p.2.n : Key)) hM4 (by unfold stK; rw [List.length_map]; exact small1000 (by omega)), ?_⟩
      rw [st_new (x := ⟨p.2.n, d, rs⟩) hnot]
      have ku : KeepT H4 (upd H4 M (.dK (stK (st ++ [⟨p.2.n, d, rs⟩])))) := KeepT.lock hM4
      have tk : ys.take (i + 1) = ys.take i ++ [p.2.n] := by rw [List.take_add_one, ey]; rfl
      refine ⟨_, st ++ [⟨p.2.n, d, rs⟩], rfl, upd_same, fun z hz => ?_, ?_, fun z hz => ?_, ?_, fun z hz hzn => ?_, fun z hz => ?_, T4.upd fM.1 fM.2, ?_, ?_, ?_⟩
      · rcases List.mem_append.mp hz with h | h
        · have A' := (hD3 z h).mono (KeepT.ofX T3 s4) (fun o e => s4 _ _ e (fr3 z h).2.2)
          exact A'.mono ku fun o e => by rw [upd_ne (fr3 z h).2.1]; exact e
        · rw [List.mem_singleton.mp h]
          exact A4.mono ku fun o e => by rw [upd_ne dM]; exact e
      · rw [tk, ← hn3]; unfold stN; rw [List.map_append]; rfl
      · rcases List.mem_append.mp hz with h | h
        · exact fr3 z h
        · rw [List.mem_singleton.mp h]
          exact ⟨(ft d0).2, dM, (ft d0).1⟩
      · rw [List.map_append]
        refine List.nodup_append.mpr ⟨dn3, by simp, fun x hx y hy => ?_⟩
        have : y = d := by simpa using hy
        subst this
        rintro rfl
        obtain ⟨z, hz, e⟩ := List.mem_map.mp hx
        have e : z.d = x := e
        have := (hD3 z hz).dk
        rw [e, d0] at this
        cases this
      · rw [tk] at hzn
        rcases List.mem_append.mp hzn with h | h
        · obtain ⟨w, h1, h2, h3⟩ := fit3 z hz h
          exact ⟨w, List.mem_append.mpr (.inl h1), h2, h3⟩
        · have ezp := sch_one A.nm hz hp (List.mem_singleton.mp h)
          subst ezp
          exact ⟨_, List.mem_append.mpr (.inr (List.mem_singleton.mpr rfl)), rfl, f4⟩
      · rcases List.mem_append.mp hz with h | h
        · exact l3 z h
        · rw [List.mem_singleton.mp h]
          show rs.length ≤ most.toNat
          omega
      · exact (A3.monoX T3 s4).other hM4 (ne_of_none A.sk hM) (fun z hz => ne_of_none (A.ds z hz).dk hM)
      · rw [upd_ne MP.symm]; exact s4 _ _ hP3 fP.1
      · exact fun b o hb hbt => by
          rw [upd_ne (ne_of_none hb hM)]
          exact s4 _ _ (s3 _ _ hb hbt) hbt
    · rintro σ H3 ⟨v, st, rfl, hM3, hD3, hn3, fr3, dn3, fit3, l3, T3, A3, hP3, s3⟩
      rw [List.length_map, List.take_length] at hn3 fit3
      have lst : st.length = s.length := by
        have := congrArg List.length hn3
        unfold stN at this
        rw [List.length_map] at this
        omega
      refine ⟨_, rfl, q M st H3 ⟨hM3, hD3, by rw [hn3]; exact ndy⟩ ⟨fun p hp => fit3 p hp (hper.mem_iff.mpr (List.mem_map.mpr ⟨p, hp, rfl⟩)), l3, fun z hz => hper.mem_iff.mp (by rw [← hn3]; exact List.mem_map.mpr ⟨z, hz, rfl⟩), lst⟩ ?_ ?_ T3 s3⟩
      · unfold stD
        refine List.nodup_cons.mpr ⟨fun h => ?_, dn3⟩
        obtain ⟨z, hz, e⟩ := List.mem_map.mp h
        exact (fr3 z hz).2.1 e
      · intro b hb
        rcases List.mem_cons.mp hb with rfl | hb
        · exact hM
        · obtain ⟨z, hz, rfl⟩ := List.mem_map.mp hb
          exact (fr3 z hz).1)
theorem ok_law_fill {f : Addr} {fd : FuncData} (k : Kn K mg "_law_fill" s_law_fill ["tape", "schema", "state"] f fd) (z : Z mg)
    {g_law_take : Addr} {gd_law_take : FuncData} (c_law_take : Cal P w K mg base 1 "_law_take" ["tape", "many"] (spTake) g_law_take gd_law_take)
    {g_law_rest : Addr} {gd_law_rest : FuncData} (c_law_rest : Cal P w K mg base 5 "_law_rest" ["tape", "columns"] (spRest) g_law_rest gd_law_rest) :
    Cal P w K mg base 6 "_law_fill" ["tape", "schema", "state"] (spFill) f fd := k.cal (by
  refine k.F.ok sc_law_fill (fun vs H Q E h => ?_) (fun cdv A outer s H vs Q E hr h => ?_)
  · obtain ⟨t, c, S, T, cs, s, st, rfl, _⟩ := h; rfl
  · obtain ⟨t, c, S, T, cs, s, st, rfl, TT, A, ok, l1, l6, B, fit, nd, q⟩ := h
    have hu := hu_of hr
    refine ⟨_, (pss_cons (ps_set (i := 3) sc_law_fill.nd rfl (Or.inl rfl) (pe_ix ix_list (pe_callB (call_sortedK rfl) (by rfl) z.sorted (by decide +kernel) (pa_cons (pv 1) pa_nil)) (pe_call c_law_take.G (hr.mono (by decide)) (by rfl) c_law_take.m c_law_take.kp c_law_take.b .nil pass0 (pa_cons (pv 0) (pa_cons (pe_callB call_lenD (by rfl) z.len (by decide +kernel) (pa_cons (pv 1) pa_nil)) pa_nil))) (fun _ _ => rfl)))
        (pss_cons (ps_set (i := 4) sc_law_fill.nd rfl (Or.inl rfl) (pe_dget hu (pe_dget hu (pv 1) (pv 3) (fun _ _ => rfl)) pe_str (fun _ _ => rfl)))
        (pss_cons (ps_set (i := 5) sc_law_fill.nd rfl (Or.inl rfl) (pe_call c_law_rest.G (hr.mono (by decide)) (by rfl) c_law_rest.m c_law_rest.kp c_law_rest.b .nil pass0 (pa_cons (pv 0) (pa_cons (pv 4) pa_nil))))
        (pss_one (ps_for PassesOwn.never rfl (pi_range1 (by rfl) z.range (pa_cons (pe_op op_add pe_int (pe_call c_law_take.G (hr.mono (by decide)) (by rfl) c_law_take.m c_law_take.kp c_law_take.b .nil pass0 (pa_cons (pv 0) (pa_cons pe_int pa_nil)))) pa_nil)) (pg_name (i := 6) sc_law_fill.nd rfl (Or.inl rfl))
        (pss_cons (ps_set (i := 7) sc_law_fill.nd rfl (Or.inl rfl) (pe_op op_add pe_int (pv 6)))
        (pss_cut (ps_if (pt_cmpR op_eq (pe_ix ix_tup (pe_ix ix_list (pv 4) pe_int (fun _ _ => rfl)) pe_int (fun _ _ => rfl)) pe_str (nomark _)) (pss_one (ps_set (i := 7) sc_law_fill.nd rfl (Or.inl rfl) (pe_op op_add_str pe_str (pe_callTy call_str_int (by rfl) z.str (by decide +kernel) (pa_cons (pv 7) pa_nil))))) pss_nil)
        (pss_one (ps_dput hu (pe_dget hu (pv 2) (pv 3) (fun _ _ => rfl)) (pv 7) (pv 5) rfl))))))))), ?_⟩
    have lsk : (schK s).length = s.length := by unfold schK; rw [List.length_map]
    refine ⟨_, rfl, S, schK s, rfl, .inl A.sk, .inr ⟨schN s, sch_keys s⟩, fun ys P hper hsrt hP => ?_⟩
    rw [sch_keys] at hper
    have e1 := same_new hP (.lst (ys.map kV))
    have T1 := TT.mono e1
    have ly : ys.length = s.length := by rw [hper.length_eq, List.length_map]; unfold schN; rw [List.length_map]
    refine ⟨_, rfl, _, rfl, S, schK s, rfl, e1 _ _ A.sk, t, c, cs, ((schK s).length : Int), rfl, T1, by omega, natSm (by omega) (by omega), fun d H2 d0 d1 T2 s2 => ?_⟩
    have S2 := (SameX.of e1).trans s2
    have A2 := A.monoX TT S2
    have hdl : d.toNat < ys.length := by omega
    have ey : ys[d.toNat]? = some ys[d.toNat] := List.getElem?_eq_getElem hdl
    have hmy := List.getElem_mem hdl
    generalize ys[d.toNat] = y at ey hmy
    obtain ⟨n, hn, rfl⟩ := List.mem_map.mp (hper.mem_iff.mp hmy)
    obtain ⟨p, hp, rfl⟩ := sch_in hn
    have okp := ok p hp
    have l5 := okp.l5
    have l0 := okp.l0
    have D2 := A2.ds p hp
    refine ⟨P, _, d, _, rfl, rfl, SqL.of (s2 _ _ upd_same (TT.fresh hP).1), at_of (j := d.toNat) (by omega) (by rw [List.getElem?_map, ey]; rfl), ?_⟩
    refine ⟨_, rfl, _, rfl, S, _, rfl, A2.desc hp, p.1.d, _, rfl, D2.gc, ?_⟩
    refine ⟨_, rfl, _, rfl, t, c, p.1.c, cs, p.2.cols, rfl, T2, D2.co, by omega, by omega, fun pr ws H3 hp0 hpr fw T3 s3 => ?_⟩
    have S3 := S2.trans s3
    have tT : t ∉ stD T st := (List.nodup_cons.mp nd).1
    have ndT := (List.nodup_cons.mp nd).2
    have dne : ∀ q ∈ st, q.d ≠ t := fun q hq e => tT (by rw [← e]; exact List.mem_cons_of_mem _ (List.mem_map.mpr ⟨q, hq, rfl⟩))
    have hTt : T ≠ t := fun e => tT (by rw [← e]; exact List.mem_cons_self)
    have kt3 := KeepT.ofX TT S3
    have B3 : StAt H3 T st := ⟨S3 _ _ B.sk hTt, fun x hx => (B.ds x hx).mono kt3 (fun o h => S3 _ _ h (dne x hx)), B.nm⟩
    have A3 := A.monoX TT S3
    have co3 := (A3.ds p hp).co
    refine ⟨_, rfl, t, c, cs, 6, rfl, T3, by decide, by decide +kernel, fun m H4 m0 m1 T4 s4 => ⟨_, _, rfl, rfl, ?_⟩⟩
    have S4 := S3.trans s4
    have kt4 := KeepT.ofX T3 s4
    have B4 : StAt H4 T st := ⟨s4 _ _ B3.sk hTt, fun x hx => (B3.ds x hx).mono kt4 (fun o h => s4 _ _ h (dne x hx)), B.nm⟩
    obtain ⟨xc, c1, c2⟩ := (A.monoX TT S4).ds p hp |>.co
    have ecol : p.2.cols[0]? = some p.2.cols[0] := List.getElem?_eq_getElem l0
    refine ⟨_, rfl, by omega, by omega, for_range (lo := 0) (n := (58 + m).toNat) (fun i σ H' => ∃ v6 v7, ∃ st' : List TS, σ = [some (.ref t), some (.ref S), some (.ref T), some (.str p.2.n), some (.ref p.1.c), some (.ref pr), v6, v7] ∧ StAt H' T st' ∧ stD T st' = stD T st ∧ (∀ p ∈ s, ∃ q ∈ st', q.n = p.2.n ∧ (∀ r ∈ q.rs, RowFit p.2.cols r)) ∧ (∀ q ∈ st', q.rs.length ≤ 6 + i) ∧ (∀ q ∈ st', q.n ∈ schN s) ∧ st'.length = s.length ∧ TapeAt H' t c cs ∧ H' p.1.c = some (.lst xc) ∧ TpL H' xc (p.2.cols.map colD) ∧ H' pr = some (.tup ws) ∧ SameE (t :: stD T st) H H') ⟨none, none, st, rfl, B4, rfl, fit.f, (fun x hx => by have := fit.l x hx; omega), fit.n, fit.e, T4, c1, c2, kt4 _ _ hpr, SameE.ofX S4 List.mem_cons_self⟩ ?_ ?_⟩
    · rintro i σ H5 hi ⟨v6, v7, st', rfl, B5, ed5, f5, l5', n5, e5, T5, c15, c25, hpr5, se5⟩
      obtain ⟨v, h1, h2⟩ := c25.get' (i := 0) (d := colD p.2.cols[0]) (by rw [List.getElem?_map, ecol]; rfl)
      obtain ⟨ca, rfl, hca⟩ := col_at h2
      refine ⟨_, rfl, _, _, rfl, rfl, ?_⟩
      refine ⟨fun σ H' => ∃ kv, σ = [some (.ref t), some (.ref S), some (.ref T), some (.str p.2.n), some (.ref p.1.c), some (.ref pr), some (.int (0 + (i : Int))), some kv] ∧ ValOf p.2.cols[0].k false kv ∧ H' = H5, ?_, ?_⟩
      · refine ⟨_, rfl, p.1.c, _, 0, _, rfl, rfl, SqL.of c15, atI_nat (j := 0) h1, ca, _, 1, _, rfl, rfl, SqT.of hca, atI_nat (j := 1) rfl, rfl, _, rfl, ?_⟩
        refine ifD (fun hk => ?_) (fun hk => ?_)
        · have hk : p.2.cols[0].k = ("text" : Str) := V.str.inj hk
          refine ⟨_, rfl, ?_⟩
          have it := int_text (i := 1000 + (0 + (i : Int))) (by omega) (by omega)
          have kl := ks_len it.1 it.2
          have ne : p.2.cols[0].k ≠ ("int" : Str) := by rw [hk]; decide +kernel
          refine ⟨_, rfl, log_small (by omega) (by omega), ⟨_, _, rfl, rfl, Nat.le_of_lt (small1000 ?_), ⟨_, rfl, .inr (.inr ⟨ne, _, rfl, kl.1, kl.2⟩), rfl⟩⟩⟩
          have e : ("k" : Str).length = 1 := by decide +kernel
          rw [e]
          have := it.1
          omega
        · have hk : p.2.cols[0].k = ("int" : Str) := by
            rcases okp.co.kd _ (List.getElem_mem l0) with e | e
            · exact e
            · exact absurd (congrArg V.str e) hk
          exact ⟨_, rfl, .inr (.inl ⟨hk, _, rfl, by omega, by omega⟩), rfl⟩
      · rintro σ H6 ⟨kv, rfl, hkv, rfl⟩
        obtain ⟨q', hq', eq', fq'⟩ := f5 p hp
        have nd5 : (stD T st').Nodup := by rw [ed5]; exact ndT
        have A5 := B5.ds q' hq'
        have dp := DPut.k (k := vKey kv) (v := .ref pr) A5.dk (by unfold roK; rw [List.length_map]; have := l5' q' hq'; exact small1000 (by omega))
        rw [hkv.key] at dp
        refine ⟨_, rfl, _, rfl, _, rfl, T, _, rfl, by rw [← eq']; exact B5.get hq', _, rfl, q'.d, _, rfl, dp, ?_⟩
        rw [putRo_K q'.rs ⟨vKey kv, pr, ws⟩]
        have ku : KeepT H6 (upd H6 q'.d (.dK (roK (putRo q'.rs ⟨vKey kv, pr, ws⟩)))) := KeepT.lock A5.dk
        have qd : q'.d ∈ stD T st := by rw [← ed5]; exact List.mem_cons_of_mem _ (List.mem_map.mpr ⟨q', hq', rfl⟩)
        have qt : q'.d ≠ t := fun e => tT (by rw [← e]; exact qd)
        refine ⟨_, _, putSt st' q'.n ⟨vKey kv, pr, ws⟩, rfl, B5.put nd5 hq' hpr5, by rw [putSt_D]; exact ed5, fun z hz => ?_, fun x hx => ?_, fun x hx => ?_, by unfold putSt; rw [List.length_map]; exact e5, T5.upd qt (fun e => by have := T5.ls; rw [e, A5.dk] at this; cases this), by rw [upd_ne (fun e => by rw [e, A5.dk] at c15; cases c15)]; exact c15, c25.mono ku, ku _ _ hpr5, SameE.upd (List.mem_cons_of_mem _ qd) _ se5⟩
        · obtain ⟨w, hw, ew, fw'⟩ := f5 z hz
          refine ⟨_, putSt_at hw, ?_, ?_⟩
          · split <;> exact ew
          · split
            · rename_i e
              have : w = q' := st_one B5.nm hw hq' e
              subst this
              have hzp : z = p := sch_one A.nm hz hp (ew.symm.trans eq')
              subst hzp
              intro r hr'
              rcases putRo_mem hr' with ⟨ek, ea, ev⟩ | h
              · have := RowFit.mk' (a := pr) ecol hkv fw
                exact ⟨fun c' hc' => by rw [ek]; exact this.k c' hc', by rw [ev]; exact this.r⟩
              · exact fw' r h
            · exact fw'
        · obtain ⟨w, hw, en, ed, h⟩ := putSt_mem hx
          rcases h with ⟨_, ers⟩ | ⟨_, rfl⟩
          · rw [ers]
            have a1 := putRo_len w.rs ⟨vKey kv, pr, ws⟩
            have a2 := l5' w hw
            omega
          · have := l5' x hw; omega
        · obtain ⟨w, hw, en, ed, h⟩ := putSt_mem hx
          rw [en]; exact n5 w hw
    · rintro σ H5 ⟨v6, v7, st', rfl, B5, ed5, f5, l5', n5, e5, T5, c15, c25, hpr5, se5⟩
      exact q st' H5 B5 ⟨f5, fun x hx => by have := l5' x hx; omega, n5, e5⟩ ed5 T5 se5)

theorem no_copy {f : Addr} {fd : FuncData} : FnOk P w K mg base CX0 0 f fd ["thing"] (spCopyG 0) := by
  have no : ∀ vs H Q E, ¬ spCopyG 0 vs H Q E := fun vs H Q E h => by
    obtain ⟨x, g, D, _, _, h1, _⟩ := h
    exact Nat.not_lt_zero _ h1
  exact ⟨fun vs H Q E h => absurd h (no vs H Q E), fun A outer s H args us vs Q E _ _ _ _ h => absurd h (no vs H Q E)⟩
theorem ok_copy {n : Nat} {f : Addr} {fd : FuncData} (k : Kn K mg "_law_copy" s_law_copy ["thing"] f fd) (z : Z mg)
    (c_law_copy : Cal P w K mg base n "_law_copy" ["thing"] (spCopyG n) f fd) : Cal P w K mg base (n + 1) "_law_copy" ["thing"] (spCopyG (n + 1)) f fd := k.cal (by
  refine k.F.ok sc_law_copy (fun vs H Q E h => ?_) (fun cdv A outer s H vs Q E hr h => ?_)
  · obtain ⟨x, g, D, rfl, _⟩ := h; rfl
  · obtain ⟨x, g, D, rfl, hx, hdep, q⟩ := h
    have hu := hu_of hr
    refine ⟨_, (pss_cons (ps_if (pt_val (pe_callB call_isi (by rfl) z.isinstance (by decide +kernel) (pa_cons (pv 0) (pa_cons (pe_bltn (v := .ty "list") (u := .type "list") (by rfl) z.list (by decide +kernel) rfl) pa_nil)))) (pss_one (ps_ret (pe_lc (own := [("item", 3)]) (g := gName 3) (tt := tYes) (by rfl) sc_law_copy.nd (pi_list (pv 0)) (blkOk_by (own := [("item", 3)]) (N := ["thing", "result", "key", "item"]) (sc := defScope s_law_copy) (by decide +kernel)) (fun _ _ _ _ _ => pg_name (i := 3) sc_law_copy.nd rfl (Or.inl rfl)) (fun _ _ _ _ _ => pts_nil) (fun _ _ _ _ _ => (pe_call c_law_copy.G (hr.mono (by omega)) (by rfl) c_law_copy.m c_law_copy.kp c_law_copy.b .nil pass0 (pa_cons (pv 3) pa_nil)))))) pss_nil)
    (pss_cons (ps_if (pt_val (pe_callB call_isi (by rfl) z.isinstance (by decide +kernel) (pa_cons (pv 0) (pa_cons (pe_bltn (v := .ty "tuple") (u := .type "tuple") (by rfl) z.tuple (by decide +kernel) rfl) pa_nil)))) (pss_one (ps_ret (pe_callTy call_tuple_of (by rfl) z.tuple (by decide +kernel) (pa_cons (pe_lc (own := [("item", 3)]) (g := gName 3) (tt := tYes) (by rfl) sc_law_copy.nd (pi_tup (pv 0)) (blkOk_by (own := [("item", 3)]) (N := ["thing", "result", "key", "item"]) (sc := defScope s_law_copy) (by decide +kernel)) (fun _ _ _ _ _ => pg_name (i := 3) sc_law_copy.nd rfl (Or.inl rfl)) (fun _ _ _ _ _ => pts_nil) (fun _ _ _ _ _ => (pe_call c_law_copy.G (hr.mono (by omega)) (by rfl) c_law_copy.m c_law_copy.kp c_law_copy.b .nil pass0 (pa_cons (pv 3) pa_nil)))) pa_nil)))) pss_nil)
    (pss_cons (ps_if (pt_val (pe_callB call_isi (by rfl) z.isinstance (by decide +kernel) (pa_cons (pv 0) (pa_cons (pe_bltn (v := .ty "dict") (u := .type "dict") (by rfl) z.dict (by decide +kernel) rfl) pa_nil)))) (pss_cons (ps_set (i := 1) sc_law_copy.nd rfl (Or.inl rfl) pe_dnewK)
    (pss_cons (ps_lock (ps_for PassesOwn.never rfl (pi_keys (pv 0)) (pg_name (i := 2) sc_law_copy.nd rfl (Or.inl rfl))
    (pss_one (ps_dput hu (pv 1) (pv 2) (pe_call c_law_copy.G (hr.mono (by omega)) (by rfl) c_law_copy.m c_law_copy.kp c_law_copy.b .nil pass0 (pa_cons (pe_dget hu (pv 0) (pv 2) (fun _ _ => rfl)) pa_nil)) rfl))))
    (pss_one (ps_ret (pv 1))))) pss_nil)
    (pss_one (ps_ret (pv 0)))))), ?_⟩
    -- the items of a list or a tuple, one by one, into a new list R
    have part : ∀ (gs : List G) (xs : List V) (R : Addr), H R = none → (∀ g ∈ gs, g.dep < n) → xs.length = gs.length → xs.length ≤ 1000 → True := fun _ _ _ _ _ _ _ => True.intro
    cases hx with
    | @s v hs =>
      obtain ⟨t, hT, c⟩ := ty_scal (K := K) (H := H) hs
      have n1 : kitB t "list" = some false ∧ kitB t "tuple" = some false ∧ kitB t "dict" = some false := by
        rcases c with ⟨_, rfl⟩ | ⟨_, rfl⟩ | ⟨_, rfl⟩ | ⟨_, rfl⟩ <;> exact ⟨by decide +kernel, by decide +kernel, by decide +kernel⟩
      refine ⟨_, rfl, _, _, _, _, false, rfl, .ty _, hT, kit_ty n1.1, _, rfl, ?_⟩
      refine ⟨_, rfl, _, _, _, _, false, rfl, .ty _, hT, kit_ty n1.2.1, _, rfl, ?_⟩
      refine ⟨_, rfl, _, _, _, _, false, rfl, .ty _, hT, kit_ty n1.2.2, _, rfl, ?_⟩
      exact ⟨_, rfl, q _ [] _ (.s hs) (Same.refl _) (fun a h => by cases h)⟩
    | @l a xs gs D hxa hn rx =>
      have hA : TyX K H (.ref a) (.type "list") := .base (.lst hxa)
      have hd : ∀ g ∈ gs, g.dep < n := fun g hg => by have := depL_mem hg; simp only [G.dep] at hdep; omega
      refine ⟨_, rfl, _, _, _, _, true, rfl, .ty _, hA, kit_ty (by decide +kernel), _, rfl, ?_⟩
      refine ⟨_, rfl, a, rfl, ⟨_, SqL.of hxa⟩, fun R hR => inner walk_list (fun i H' => ∃ ys E, H' R = some (.lst ys) ∧ GpL H' ys (gs.take i) E ∧ Same H H' ∧ (∀ b ∈ E, H b = none ∧ b ≠ R)) ⟨[], [], upd_same, .nil, same_new hR _, (fun b h => by cases h)⟩ (fun i H' _ ⟨_, _, _, _, s, _⟩ => SqL.of (s _ _ hxa)) ?_ ?_⟩
      · rintro i x H1 H1' hi ⟨ys, E, R1, r1, s1, f1⟩ ⟨rfl, ex⟩
        obtain ⟨g1, D1, e1, p1, i1⟩ := rx.get ex
        refine ⟨rfl, _, rfl, x, g1, D1, rfl, p1.mono s1, hd g1 (List.mem_of_getElem? e1), fun x' D' H2 p2 s2 f2 => ?_⟩
        have R2 := s2 _ _ R1
        have ku : KeepT H2 (upd H2 R (.lst (ys ++ [x']))) := KeepT.upd (fun zs z => by rw [R2] at z; cases z)
        have nR : ∀ b ∈ D', b ≠ R := fun b hb e => by subst e; have := f2 _ hb; rw [R1] at this; cases this
        refine ⟨ys, R2, (by rw [r1.length, List.length_take]; exact small1000 (by omega)), ys ++ [x'], E ++ D', upd_same, ?_, same_upd hR _ (s1.trans s2), ?_⟩
        · rw [List.take_add_one, e1]
          exact GpL.snoc ((r1.mono s2).frame ku fun b hb o ho => by rw [upd_ne (f1 b hb).2]; exact ho) (p2.frame ku fun b hb o ho => by rw [upd_ne (nR b hb)]; exact ho)
        · intro b hb
          rcases List.mem_append.mp hb with hb | hb
          · exact f1 b hb
          · exact ⟨s1.free (f2 b hb), nR b hb⟩
      · rintro H1 ⟨ys, E, R1, r1, s1, f1⟩
        rw [List.take_of_length_le (by rw [rx.length]; omega)] at r1
        refine q (.ref R) (R :: E) H1 (.l R1 (by rw [r1.length, ← rx.length]; exact hn) r1) s1 (fun b hb => ?_)
        rcases List.mem_cons.mp hb with rfl | hb
        · exact hR
        · exact (f1 b hb).1
    | @t a xs gs D hxa hn rx =>
      have hA : TyX K H (.ref a) (.type "tuple") := .base (.tup hxa)
      have hd : ∀ g ∈ gs, g.dep < n := fun g hg => by have := depL_mem hg; simp only [G.dep] at hdep; omega
      refine ⟨_, rfl, _, _, _, _, false, rfl, .ty _, hA, kit_ty (by decide +kernel), _, rfl, ?_⟩
      refine ⟨_, rfl, _, _, _, _, true, rfl, .ty _, hA, kit_ty (by decide +kernel), _, rfl, ?_⟩
      refine ⟨_, rfl, a, rfl, ⟨_, SqT.of hxa⟩, fun R hR => inner walk_tup (fun i H' => ∃ ys E, H' R = some (.lst ys) ∧ GpL H' ys (gs.take i) E ∧ Same H H' ∧ (∀ b ∈ E, H b = none ∧ b ≠ R)) ⟨[], [], upd_same, .nil, same_new hR _, (fun b h => by cases h)⟩ (fun i H' _ ⟨_, _, _, _, s, _⟩ => SqT.of (s _ _ hxa)) ?_ ?_⟩
      · rintro i x H1 H1' hi ⟨ys, E, R1, r1, s1, f1⟩ ⟨rfl, ex⟩
        obtain ⟨g1, D1, e1, p1, i1⟩ := rx.get ex
        refine ⟨rfl, _, rfl, x, g1, D1, rfl, p1.mono s1, hd g1 (List.mem_of_getElem? e1), fun x' D' H2 p2 s2 f2 => ?_⟩
        have R2 := s2 _ _ R1
        have ku : KeepT H2 (upd H2 R (.lst (ys ++ [x']))) := KeepT.upd (fun zs z => by rw [R2] at z; cases z)
        have nR : ∀ b ∈ D', b ≠ R := fun b hb e => by subst e; have := f2 _ hb; rw [R1] at this; cases this
        refine ⟨ys, R2, (by rw [r1.length, List.length_take]; exact small1000 (by omega)), ys ++ [x'], E ++ D', upd_same, ?_, same_upd hR _ (s1.trans s2), ?_⟩
        · rw [List.take_add_one, e1]
          exact GpL.snoc ((r1.mono s2).frame ku fun b hb o ho => by rw [upd_ne (f1 b hb).2]; exact ho) (p2.frame ku fun b hb o ho => by rw [upd_ne (nR b hb)]; exact ho)
        · intro b hb
          rcases List.mem_append.mp hb with hb | hb
          · exact f1 b hb
          · exact ⟨s1.free (f2 b hb), nR b hb⟩
      · rintro H1 ⟨ys, E, R1, r1, s1, f1⟩
        rw [List.take_of_length_le (by rw [rx.length]; omega)] at r1
        refine ⟨R, ys, rfl, .inl ⟨SqL.of R1, fun p hp => ?_⟩⟩
        exact q (.ref p) E _ (.t upd_same (by rw [r1.length, ← rx.length]; exact hn) (r1.mono (same_new hp _))) (s1.trans (same_new hp _)) (fun b hb => (f1 b hb).1)
    | @d a kvs kgs D hxa hn nd rx fx =>
      have hA : TyX K H (.ref a) (.type "dict") := .base (.dK hxa)
      have hd : ∀ (k : Key) (g : G), (k, g) ∈ kgs → g.dep < n := fun k g hg => by have := depK_mem hg; simp only [G.dep] at hdep; omega
      refine ⟨_, rfl, _, _, _, _, false, rfl, .ty _, hA, kit_ty (by decide +kernel), _, rfl, ?_⟩
      refine ⟨_, rfl, _, _, _, _, false, rfl, .ty _, hA, kit_ty (by decide +kernel), _, rfl, ?_⟩
      refine ⟨_, rfl, _, _, _, _, true, rfl, .ty _, hA, kit_ty (by decide +kernel), _, rfl, ?_⟩
      refine fun R hR => ?_
      have aR : a ≠ R := ne_of_none hxa hR
      have hxa1 : (upd H R (.dK [])) a = some (.dK kvs) := by rw [upd_ne aR]; exact hxa
      refine ⟨a, .dK kvs, hxa1, True.intro, fun od => ?_⟩
      refine ⟨_, rfl, a, od, rfl, .inl ⟨kvs, upd_same, for_it walk_keys (fun i σ H' => ∃ v2 ys E, σ = [some (.ref a), some (.ref R), v2, none] ∧ H' a = some (.frz od (.dK kvs)) ∧ H' R = some (.dK ys) ∧ GpK H' ys (kgs.take i) E ∧ (∀ b o, H b = some o → b ≠ a → H' b = some o) ∧ (∀ b ∈ E, H b = none ∧ b ≠ R)) ⟨none, [], [], rfl, upd_same, by rw [upd_ne aR.symm]; exact upd_same, .nil, fun b o h nb => by rw [upd_ne nb, upd_ne (ne_of_none h hR)]; exact h, (fun b h => by cases h)⟩ (fun i σ H' _ ⟨_, _, _, _, e, _⟩ => e) ?_ ?_⟩⟩
      · rintro i x σ H1 H1' hi ⟨v2, ys, E, rfl, a1, R1, r1, s1, f1⟩ ⟨rfl, key, wv, ek, rfl⟩
        obtain ⟨g1, D1, e1, p1, i1⟩ := rx.get ek
        have ga : DGet H1' a (kV key) (some wv) := .inl ⟨kvs, key, .inr ⟨od, a1⟩, rfl, (valV_at nd ek).symm⟩
        have p1' : Gp H1' wv g1 D1 := p1.frame (fun b zs h => s1 _ _ h (ne_of h hxa (by intro z; cases z))) (fun b hb o h => s1 _ _ h (fun e => by subst e; exact fx (i1 _ hb)))
        refine ⟨_, rfl, _, rfl, a, wv, rfl, ga, wv, g1, D1, rfl, p1', hd _ _ (List.mem_of_getElem? e1), fun x' D' H2 p2 s2 f2 => ?_⟩
        have R2 := s2 _ _ R1
        have a2 := s2 _ _ a1
        have nR : ∀ b ∈ D', b ≠ R := fun b hb e => by subst e; have := f2 _ hb; rw [R1] at this; cases this
        have lk : ys.length = i := by
          have := congrArg List.length r1.keys
          rw [List.length_map, List.length_map, List.length_take] at this
          have l2 := congrArg List.length rx.keys
          rw [List.length_map, List.length_map] at l2
          omega
        have hno : valV ys key = none := by
          cases e : valV ys key with
          | none => rfl
          | some v =>
            exfalso
            have hin := valV_in e
            rw [r1.keys, List.map_take, ← rx.keys] at hin
            obtain ⟨j, hj, ej⟩ := List.getElem_of_mem hin
            rw [List.length_take] at hj
            rw [List.getElem_take] at ej
            have b1 : (kvs.map (·.1))[j]? = some key := by rw [List.getElem?_eq_getElem (by omega), ej]
            have b2 : (kvs.map (·.1))[i]? = some key := by rw [List.getElem?_map, ek]; rfl
            have := nd_ix nd b1 b2
            omega
        refine ⟨_, rfl, _, rfl, R, _, rfl, DPut.k (k := key) R2 (by rw [lk]; exact small1000 (by omega)), ?_⟩
        rw [putK_new _ hno]
        have ku : KeepT H2 (upd H2 R (.dK (ys ++ [(key, x')]))) := KeepT.upd (fun zs z => by rw [R2] at z; cases z)
        refine ⟨_, ys ++ [(key, x')], E ++ D', rfl, by rw [upd_ne aR]; exact a2, upd_same, ?_, ?_, ?_⟩
        · rw [List.take_add_one, e1]
          exact GpK.snoc ((r1.mono s2).frame ku fun b hb o ho => by rw [upd_ne (f1 b hb).2]; exact ho) (p2.frame ku fun b hb o ho => by rw [upd_ne (nR b hb)]; exact ho)
        · intro b o h nb
          rw [upd_ne (ne_of_none h hR)]
          exact s2 _ _ (s1 b o h nb)
        · intro b hb
          rcases List.mem_append.mp hb with hb | hb
          · exact f1 b hb
          · refine ⟨?_, nR b hb⟩
            cases e : H b with
            | none => rfl
            | some o =>
              by_cases eb : b = a
              · subst eb; have := f2 _ hb; rw [a1] at this; cases this
              · have := s1 b o e eb
                rw [f2 _ hb] at this
                cases this
      · rintro σ H1 ⟨v2, ys, E, rfl, a1, R1, r1, s1, f1⟩
        have l2 : kvs.length = kgs.length := by have := congrArg List.length rx.keys; simpa using this
        rw [List.take_of_length_le (by omega)] at r1
        have kk : ys.map (·.1) = kvs.map (·.1) := by rw [r1.keys, rx.keys]
        have ly : ys.length = kvs.length := by have := congrArg List.length kk; simpa using this
        refine ⟨a1, ?_⟩
        have ku : KeepT H1 (upd H1 a (.dK kvs)) := KeepT.upd (fun zs z => by rw [a1] at z; cases z)
        have na : ∀ b ∈ E, b ≠ a := fun b hb e => by subst e; have := (f1 _ hb).1; rw [hxa] at this; cases this
        refine ⟨_, rfl, q (.ref R) (R :: E) _ (.d (by rw [upd_ne aR.symm]; exact R1) (by omega) (by rw [kk]; exact nd) (r1.frame ku fun b hb o ho => by rw [upd_ne (na b hb)]; exact ho) (fun h => (f1 R h).2 rfl)) ?_ ?_⟩
        · intro b o h
          by_cases e : b = a
          · subst e; rw [hxa] at h; cases h; exact upd_same
          · rw [upd_ne e]; exact s1 b o h e
        · intro b hb
          rcases List.mem_cons.mp hb with rfl | hb
          · exact hR
          · exact (f1 b hb).1)
theorem ok_law_copy {f : Addr} {fd : FuncData} (k : Kn K mg "_law_copy" s_law_copy ["thing"] f fd) (z : Z mg) : ∀ n : Nat, Cal P w K mg base n "_law_copy" ["thing"] (spCopyG n) f fd
  | 0 => k.cal no_copy
  | n + 1 => ok_copy k z (ok_law_copy k z n)
theorem ok_rows {f : Addr} {fd : FuncData} (k : Kn K mg "rows" s_rows ["state", "table"] f fd) (z : Z mg) :
    Cal P w K mg base 1 "rows" ["state", "table"] (spRows) f fd := k.cal (by
  refine k.F.ok sc_rows (fun vs H Q E h => ?_) (fun cdv A outer s H vs Q E hr h => ?_)
  · obtain ⟨T, n, d, rs, rfl, _⟩ := h; rfl
  · obtain ⟨T, n, d, rs, rfl, G, A, hone, hw, hl, q⟩ := h
    have hu := hu_of hr
    refine ⟨_, (pss_one (ps_ret (pe_lc (own := [("key", 2)]) (g := gName 2) (tt := tYes) (by rfl) sc_rows.nd (pi_list (pe_callB (call_sortedK rfl) (by rfl) z.sorted (by decide +kernel) (pa_cons (pe_dget hu (pv 0) (pv 1) (fun _ _ => rfl)) pa_nil))) (blkOk_by (own := [("key", 2)]) (N := ["state", "table", "key"]) (sc := defScope s_rows) (by decide +kernel)) (fun _ _ _ _ _ => pg_name (i := 2) sc_rows.nd rfl (Or.inl rfl)) (fun _ _ _ _ _ => pts_nil) (fun _ _ _ _ _ => (pe_op (r := rCatA K) op_catA (pe_tup (pa_cons (pv 2) pa_nil)) (pe_dget hu (pe_dget hu (pv 0) (pv 1) (fun _ _ => rfl)) (pv 2) (fun _ _ => rfl))))))), ?_⟩
    have keepG : ∀ {H' : Hp}, Same H H' → DGet H' T (.str n) (some (.ref d)) := fun {H'} s => by
      rcases G with ⟨kvs, k, g, ek, ev⟩ | ⟨kvs, k, b, g, eb, _⟩
      · refine .inl ⟨kvs, k, ?_, ek, ev⟩
        rcases g with g | ⟨o, g⟩
        · exact .inl (s _ _ g)
        · exact .inr ⟨o, s _ _ g⟩
      · cases eb
    refine ⟨_, rfl, _, rfl, T, _, rfl, G, d, roK rs, rfl, .inl A.dk, by rw [roK_keys]; exact hone, fun ys P hper hsrt hP => ?_⟩
    rw [roK_keys] at hper
    have ey' : ys = sortK (roN rs) := sortK_eq hper hsrt
    have e1 := same_new hP (.lst (ys.map kV))
    have l200 := hl
    have hys : ys.length = rs.length := by rw [hper.length_eq]; unfold roN; rw [List.length_map]
    refine ⟨P, rfl, ⟨_, SqL.of upd_same⟩, fun L hL => inner walk_list (fun i H' => ∃ as : List Addr, H' L = some (.lst (as.map V.ref)) ∧ as.length = i ∧ (∀ (j : Nat) (a : Addr) (r : List V), as[j]? = some a → (rowsM rs)[j]? = some r → H' a = some (.tup r)) ∧ Same (upd H P (.lst (ys.map kV))) H') ⟨[], upd_same, rfl, (by intro j a r h; simp at h), same_new hL _⟩ (fun i H' _ ⟨_, _, _, _, s⟩ => SqL.of (s _ _ upd_same)) ?_ ?_⟩
    · rintro i x H1 H1' hi ⟨as, hL1, la, ha, s1⟩ ⟨rfl, ex⟩
      rw [List.length_map] at hi
      have ey : ys[i]? = some ys[i] := List.getElem?_eq_getElem hi
      rw [List.getElem?_map, ey] at ex
      cases ex
      obtain ⟨r, hr', er⟩ := ro_mem (hper.mem_iff.mp (List.getElem_mem hi))
      have S1 : Same H H1' := e1.trans s1
      have A1 := A.mono (KeepT.of S1) (fun o => S1 _ _)
      refine ⟨rfl, _, rfl, (by show 1 ≤ sizeLine; decide), fun p hp => ?_⟩
      have e2 := same_new hp (.tup [kV ys[i]])
      refine ⟨_, rfl, _, rfl, T, _, rfl, keepG (S1.trans e2), _, rfl, d, _, rfl, (by have g := (A1.mono (KeepT.of e2) (fun o => e2 _ _)).get hr'; rw [er] at g; exact g), ?_⟩
      refine cat_any upd_same ((A1.mono (KeepT.of e2) (fun o => e2 _ _)).rt r hr') (by have := hw r hr'; show 1 + r.vs.length ≤ 1000; omega) fun p2 H2 h2 s2 => ?_
      have S2 := e2.trans s2
      refine ⟨_, S2 _ _ hL1, (by rw [List.length_map]; exact small1000 (by omega)), as ++ [p2], by rw [upd_same, List.map_append]; rfl, by rw [List.length_append, List.length_singleton, la], fun j a rr haj hrj => ?_, same_upd hL _ (s1.trans S2)⟩
      have up : ∀ {b : Addr} {zs : List V}, H2 b = some (.tup zs) → (upd H2 L (.lst (as.map V.ref ++ [V.ref p2]))) b = some (.tup zs) := fun {b zs} hb => by
        have : b ≠ L := fun z => by rw [z, S2 _ _ hL1] at hb; cases hb
        rw [upd_ne this]; exact hb
      by_cases hj : j < as.length
      · rw [List.getElem?_append_left hj] at haj
        exact up (S2 _ _ (ha j a rr haj hrj))
      · have hj2 : j = as.length := by
          have := (List.getElem?_eq_some_iff.mp haj).1
          rw [List.length_append, List.length_singleton] at this
          omega
        subst hj2
        rw [List.getElem?_append_right (Nat.le_refl _), Nat.sub_self] at haj
        cases haj
        have e3 : (rowsM rs)[as.length]? = some (kV ys[i] :: r.vs) := by
          unfold rowsM
          rw [← ey', la, List.getElem?_map, ey]
          show some (kV ys[i] :: restAt rs ys[i]) = _
          rw [← er, restAt_eq A.nd hr']
        rw [e3] at hrj
        cases hrj
        exact up h2
    · rintro H1 ⟨as, hL1, la, ha, s1⟩
      rw [List.length_map] at la
      have fL : H L = none := e1.free hL
      exact q L H1 ⟨as, hL1, by rw [la, rowsM_len, hper.length_eq]; unfold roN; rw [List.length_map], ha⟩ (e1.trans s1) fL)
theorem ok_column_names {f : Addr} {fd : FuncData} (k : Kn K mg "column_names" s_column_names ["description"] f fd) (z : Z mg) :
    Cal P w K mg base 1 "column_names" ["description"] (spColumnNames) f fd := k.cal (by
  refine k.F.ok sc_column_names (fun vs H Q E h => ?_) (fun cdv A outer s H vs Q E hr h => ?_)
  · obtain ⟨d, L, cols, rfl, _⟩ := h; rfl
  · obtain ⟨d, L, cols, rfl, G, C, hl, q⟩ := h
    have hu := hu_of hr
    refine ⟨_, (pss_one (ps_ret (pe_lc (own := [("column", 1)]) (g := gName 1) (tt := tYes) (by rfl) sc_column_names.nd (pi_list (pe_dget hu (pv 0) pe_str (fun _ _ => rfl))) (blkOk_by (own := [("column", 1)]) (N := ["description", "column"]) (sc := defScope s_column_names) (by decide +kernel)) (fun _ _ _ _ _ => pg_name (i := 1) sc_column_names.nd rfl (Or.inl rfl)) (fun _ _ _ _ _ => pts_nil) (fun _ _ _ _ _ => (pe_ix (r := rIxT K) ix_tup (pv 1) pe_int (fun _ _ => rfl)))))), ?_⟩
    obtain ⟨xs, h1, h2⟩ := id C
    have hx : xs.length = cols.length := by rw [h2.length, List.length_map]
    refine ⟨_, rfl, d, _, rfl, G, L, rfl, ⟨_, SqL.of h1⟩, fun D hD => lc_list (K := K) (a := L) (xs := xs) (fun i H' => H' D = some (.lst (((colNs cols).take i).map V.str)) ∧ Same H H') ⟨upd_same, same_new hD _⟩ (fun i H' _ hh => SqL.of (hh.2 _ _ h1)) ?_ ?_⟩
    · rintro i x H1 hi ⟨hD1, s1⟩
      have hil : i < cols.length := by rw [← hx]; exact (List.getElem?_eq_some_iff.mp hi).1
      obtain ⟨xs', a, k1, k2, k3⟩ := C.get (List.getElem?_eq_getElem hil)
      rw [h1] at k1
      cases k1
      rw [hi] at k2
      cases k2
      refine ⟨rfl, _, rfl, a, _, 0, _, rfl, rfl, SqT.of (s1 _ _ k3), atI_nat (j := 0) rfl, _, hD1, (by rw [List.length_map, List.length_take]; exact small1000 (by omega)), ?_, same_upd hD _ s1⟩
      rw [upd_same, List.take_add_one]
      have : (colNs cols)[i]? = some cols[i].n := by unfold colNs; rw [List.getElem?_map, List.getElem?_eq_getElem hil]; rfl
      rw [this]
      simp
    · rintro H1 ⟨hD1, s1⟩
      have : (colNs cols).take xs.length = colNs cols := List.take_of_length_le (by unfold colNs; rw [List.length_map]; omega)
      rw [this] at hD1
      exact q D H1 hD s1 hD1)
theorem ok_leads_nowhere {f : Addr} {fd : FuncData} (k : Kn K mg "leads_nowhere" s_leads_nowhere ["row", "names", "references", "state"] f fd) (z : Z mg) :
    Cal P w K mg base 1 "leads_nowhere" ["row", "names", "references", "state"] (spLeadsNo) f fd := k.cal (by
  refine k.F.ok sc_leads_nowhere (fun vs H Q E h => ?_) (fun cdv A outer s H vs Q E hr h => ?_)
  · obtain ⟨S, s, T, st, p, ra, N, RF, r, rws, rfl, _⟩ := h; rfl
  · obtain ⟨S, s, T, st, p, ra, N, RF, r, rws, rfl, B, hp, hra, hm, F, hN, rfl, q⟩ := h
    have hu := hu_of hr
    refine ⟨_, (pss_cons (ps_for PassesOwn.never rfl (pi_list (pv 2)) (pg_tup (by rfl) (pgs_cons (pg_name (i := 4) sc_leads_nowhere.nd rfl (Or.inl rfl)) (pgs_cons (pg_name (i := 5) sc_leads_nowhere.nd rfl (Or.inl rfl)) pgs_nil)))
        (pss_cons (ps_set (i := 6) sc_leads_nowhere.nd rfl (Or.inl rfl) (pe_ix ix_tup (pv 0) (pe_bm PySem.F.plainAttrs_list PySem.F.slot_list_index PySem.F.type_list_index mt_index (pv 1) (pa_cons (pv 4) pa_nil)) (fun _ _ => rfl)))
        (pss_one (ps_if (PW.pt (pw_and (pt_cmpR op_notN (pv 6) pe_non (nomark _)) (pw_and1 (pt_cmp (pc_dnotin hu (pv 6) (pe_dget hu (pv 3) (pv 5) (fun _ _ => rfl))))))) (pss_one (ps_ret pe_bl)) pss_nil))))
        (pss_one (ps_ret pe_bl))), ?_⟩
    have D := B.ds p hp
    have ok := B.ok p hp
    obtain ⟨xr, r1, r2⟩ := D.rf
    have lr : xr.length = p.2.rf.length := by rw [r2.length, List.length_map]
    have hrl : r.length = (colNs p.2.cols).length := by rw [F.n r hm]; unfold colNs; rw [List.length_map]
    refine ⟨_, rfl, p.1.r, rfl, ⟨_, SqL.of r1⟩, for_it walk_list (fun i σ H' => ∃ v4 v5 v6, σ = [some (.ref ra), some (.ref N), some (.ref p.1.r), some (.ref T), v4, v5, v6] ∧ H' = H ∧ ((p.2.rf.take i).any fun x => !decide (at_ (colNs p.2.cols) r x.1 = .non) && !((stKs st x.2).any fun k => decide (kV k = at_ (colNs p.2.cols) r x.1))) = false) ⟨none, none, none, rfl, rfl, rfl⟩ (fun i σ H' _ ⟨_, _, _, _, e, _⟩ => by rw [e]; exact SqL.of r1) ?_ ?_⟩
    · rintro i x σ H1 H1' hi ⟨v4, v5, v6, rfl, rfl, ab⟩ ⟨rfl, ex⟩
      have hil : i < p.2.rf.length := by omega
      have ec : p.2.rf[i]? = some p.2.rf[i] := List.getElem?_eq_getElem hil
      have hmr := List.getElem_mem hil
      obtain ⟨v, g1, g2⟩ := r2.get' (i := i) (d := rfD p.2.rf[i]) (by rw [List.getElem?_map, ec]; rfl)
      rw [ex] at g1
      cases g1
      obtain ⟨fa, rfl, hfa⟩ := rf_at g2
      generalize p.2.rf[i] = x at ec hmr hfa
      obtain ⟨col, hc, ecn, _⟩ := ok.rc x hmr
      have hn : x.1 ∈ colNs p.2.cols := by rw [← ecn]; exact List.mem_map.mpr ⟨col, List.mem_of_mem_drop hc, rfl⟩
      obtain ⟨z, i1, i2, i3, i4⟩ := ix_names hn
      obtain ⟨tq, htq, etq⟩ := B.ref hp x hmr
      obtain ⟨_, _, vv⟩ := at_val F hm hn
      refine ⟨fa, _, rfl, SqT.of hfa, rfl, _, _, rfl, _, _, rfl, rfl, ?_⟩
      refine ⟨_, rfl, _, rfl, .inl ⟨rfl, _, SqL.of hN⟩, _, rfl, N, _, _, (colNs p.2.cols).idxOf x.1, z, rfl, rfl, SqL.of hN, rfl, i1, i2, i3, i4, ra, _, _, _, rfl, rfl, SqT.of hra, at_ofN rfl (at_some hn hrl), ?_⟩
      have stp : ((p.2.rf.take (i + 1)).any fun x => !decide (at_ (colNs p.2.cols) r x.1 = .non) && !((stKs st x.2).any fun k => decide (kV k = at_ (colNs p.2.cols) r x.1))) = (!decide (at_ (colNs p.2.cols) r x.1 = .non) && !((stKs st x.2).any fun k => decide (kV k = at_ (colNs p.2.cols) r x.1))) := by
        rw [List.take_add_one, ec, List.any_append, ab]; simp
      refine ⟨_, rfl, rfl, _, rfl, ?_⟩
      refine ifN (fun hv => ?_) (fun hv => ?_)
      · have htab := B.sa.ds tq htq
        have gd := DGet.k (k := vKey (at_ (colNs p.2.cols) r x.1)) htab.dk
        rw [kV_vKey vv hv] at gd
        rw [decide_eq_false hv, ← etq, stKs_eq B.sa.nm htq, ← key_in vv hv] at stp
        refine ⟨_, rfl, _, rfl, _, rfl, T, _, rfl, by rw [← etq]; exact B.sa.get htq, tq.d, _, rfl, gd, _, rfl, ?_⟩
        refine ite2 (fun hb => ?_) (fun hb => ?_)
        · have : badR (stKs st) p.2 r = true := by
            unfold badR
            refine List.any_eq_true.mpr ⟨x, hmr, ?_⟩
            rw [decide_eq_false hv, ← etq, stKs_eq B.sa.nm htq, ← key_in vv hv]
            exact hb
          rw [this] at q
          exact q
        · refine ⟨_, _, _, rfl, rfl, ?_⟩
          rw [stp, Bool.eq_false_iff.mpr hb]
          rfl
      · refine ⟨_, _, _, rfl, rfl, ?_⟩
        rw [stp, decide_eq_true hv]
        rfl
    · rintro σ H1 ⟨v4, v5, v6, rfl, rfl, ab⟩
      rw [lr, List.take_length] at ab
      have : badR (stKs st) p.2 r = false := ab
      rw [this] at q
      exact q)
theorem ok_lost_keys {f : Addr} {fd : FuncData} (k : Kn K mg "lost_keys" s_lost_keys ["description", "listed", "state"] f fd) (z : Z mg)
    {g_column_names : Addr} {gd_column_names : FuncData} (c_column_names : Cal P w K mg base 1 "column_names" ["description"] (spColumnNames) g_column_names gd_column_names)
    {g_leads_nowhere : Addr} {gd_leads_nowhere : FuncData} (c_leads_nowhere : Cal P w K mg base 1 "leads_nowhere" ["row", "names", "references", "state"] (spLeadsNo) g_leads_nowhere gd_leads_nowhere) :
    Cal P w K mg base 2 "lost_keys" ["description", "listed", "state"] (spLost) f fd := k.cal (by
  refine k.F.ok sc_lost_keys (fun vs H Q E h => ?_) (fun cdv A outer s H vs Q E hr h => ?_)
  · obtain ⟨S, s, T, st, p, L, rws, rfl, _⟩ := h; rfl
  · obtain ⟨S, s, T, st, p, L, rws, rfl, B, hp, R, F, q⟩ := h
    have hu := hu_of hr
    refine ⟨_, (pss_cons (ps_set (i := 3) sc_lost_keys.nd rfl (Or.inr rfl) (pe_call c_column_names.G (hr.mono (by decide)) (by rfl) c_column_names.m c_column_names.kp c_column_names.b .nil pass0 (pa_cons (pv 0) pa_nil)))
        (pss_one (ps_ret (pe_lc (own := [("row", 4)]) (g := gName 4) (by rfl) sc_lost_keys.nd (pi_list (pv 1)) (blkOk_by (own := [("row", 4)]) (N := ["description", "listed", "state", "names", "row"]) (sc := defScope s_lost_keys) (by decide +kernel)) (fun _ _ _ _ _ => pg_name (i := 4) sc_lost_keys.nd rfl (Or.inl rfl)) (fun _ _ _ _ _ => (pts_one (pt_val (pe_call c_leads_nowhere.G (hr.mono (by decide)) (by rfl) c_leads_nowhere.m c_leads_nowhere.kp c_leads_nowhere.b .nil pass0 (pa_cons (pv 4) (pa_cons (pv 3) (pa_cons (pe_dget hu (pv 0) pe_str (fun _ _ => rfl)) (pa_cons (pv 2) pa_nil)))))))) (fun _ _ _ _ _ => (pe_ix (r := rIxT K) ix_tup (pv 4) pe_int (fun _ _ => rfl))))))), ?_⟩
    have D := B.ds p hp
    have ok := B.ok p hp
    have l5 := ok.l5
    have h200 := F.l
    refine ⟨_, rfl, p.1.d, p.1.c, p.2.cols, rfl, D.gc, D.co, by omega, fun N H1 hN s1 hN1 => ?_⟩
    have B1 := B.mono s1
    obtain ⟨xs, hL, lx, hx⟩ := (R.same s1).get
    refine ⟨_, rfl, L, rfl, ⟨_, SqL.of hL⟩, fun E hE => inner walk_list (fun i H' => H' E = some (.lst (((rws.take i).filter (badR (stKs st) p.2)).map headV)) ∧ Same H1 H') ⟨upd_same, same_new hE _⟩ (fun i H' _ hh => SqL.of (hh.2 _ _ hL)) ?_ ?_⟩
    · rintro i x H2 H2' hi ⟨hE2, s2⟩ ⟨rfl, ex⟩
      obtain ⟨ra, r, rfl, hr1, hr2⟩ := hx _ _ ex
      have hm := List.mem_of_getElem? hr1
      have D2 := D.mono (s1.trans s2)
      refine ⟨rfl, _, rfl, _, rfl, _, rfl, p.1.d, _, rfl, D2.gr, _, rfl, S, s, T, st, p, ra, N, p.1.r, r, rws, rfl, B1.mono s2, hp, s2 _ _ hr2, hm, F, s2 _ _ hN1, rfl, _, rfl, ?_⟩
      refine ite2 (fun hb => ?_) (fun hb => ?_)
      · obtain ⟨v, vs, rfl⟩ := F.ne ok.l0 hm
        refine ⟨_, rfl, ra, _, 0, _, rfl, rfl, SqT.of (s2 _ _ hr2), atI_nat (j := 0) rfl, _, hE2, (by rw [List.length_map]; refine small1000 ?_; have := List.length_filter_le (badR (stKs st) p.2) (rws.take i); rw [List.length_take] at this; omega), ?_, same_upd hE _ s2⟩
        rw [upd_same, List.take_add_one, hr1]
        show _ = some (HO.lst (List.map headV (List.filter (badR (stKs st) p.2) (rws.take i ++ [v :: vs]))))
        rw [List.filter_append, List.map_append, List.filter_cons, if_pos hb]
        rfl
      · refine ⟨?_, s2⟩
        rw [List.take_add_one, hr1]
        show _ = some (HO.lst (List.map headV (List.filter (badR (stKs st) p.2) (rws.take i ++ [r]))))
        rw [List.filter_append, List.filter_cons, if_neg hb, List.filter_nil, List.append_nil]
        exact hE2
    · rintro H2 ⟨hE2, s2⟩
      rw [lx, List.take_length] at hE2
      exact q E H2 hE2 (s1.trans s2))
theorem ok_repeated_keys {f : Addr} {fd : FuncData} (k : Kn K mg "repeated_keys" s_repeated_keys ["description", "listed"] f fd) (z : Z mg)
    {g_column_names : Addr} {gd_column_names : FuncData} (c_column_names : Cal P w K mg base 1 "column_names" ["description"] (spColumnNames) g_column_names gd_column_names) :
    Cal P w K mg base 2 "repeated_keys" ["description", "listed"] (fun vs H Q _ => ∃ (a : Ads) (tab : Tab) (L : Addr) (rws : List (List V)) (fr : List (Str × List Col)), vs = [.ref a.d, .ref L] ∧ DescAt H a tab ∧ TabOk fr tab ∧ RowsAt H L rws ∧ RowsFit tab.cols rws ∧ ∀ N H', H' N = some (.lst (keysU tab rws)) → Same H H' → Q (.ref N) H') f fd := k.cal (by
  refine k.F.ok sc_repeated_keys (fun vs H Q E h => ?_) (fun cdv A outer s H vs Q E hr h => ?_)
  · obtain ⟨a, tab, L, rws, fr, rfl, _⟩ := h; rfl
  · obtain ⟨a, tab, L, rws, fr, rfl, D, ok, R, F, q⟩ := h
    have hu := hu_of hr
    refine ⟨_, (pss_cons (ps_set (i := 2) sc_repeated_keys.nd rfl (Or.inr rfl) (pe_call c_column_names.G (hr.mono (by decide)) (by rfl) c_column_names.m c_column_names.kp c_column_names.b .nil pass0 (pa_cons (pv 0) pa_nil)))
        (pss_cons (ps_setLc (i := 3) (own := [("name", 9)]) (g := gName 9) (tt := tYes) (te := (tBM K "list" (rIndex K) (tVar 2) (tCons (tVar 9) tNil))) (by rfl) sc_repeated_keys.nd rfl rfl (sw_true rfl rfl rfl (by decide +kernel)) (pi_list (pe_dget hu (pv 0) pe_str (fun _ _ => rfl))) (blkOk_by (own := [("name", 9)]) (N := ["description", "listed", "names", "places", "found", "seen", "row", "given", "pair", "name", "place"]) (sc := defScope s_repeated_keys) (by decide +kernel)) (fun _ _ _ _ _ => pg_name (i := 9) sc_repeated_keys.nd rfl (Or.inl rfl)) (fun _ _ _ _ _ => pts_nil) (fun _ _ _ _ _ => (pe_bm PySem.F.plainAttrs_list PySem.F.slot_list_index PySem.F.type_list_index mt_index (pv 2) (pa_cons (pv 9) pa_nil))))
        (pss_cons (ps_set (i := 4) sc_repeated_keys.nd rfl (Or.inl rfl) (pe_lst pa_nil))
        (pss_cons (ps_set (i := 5) sc_repeated_keys.nd rfl (Or.inr rfl) pe_dnewT)
        (pss_cons (ps_for PassesOwn.never rfl (pi_list (pv 1)) (pg_name (i := 6) sc_repeated_keys.nd rfl (Or.inr rfl))
        (pss_cons (ps_setLc (i := 7) (own := [("place", 10)]) (g := gName 10) (by rfl) sc_repeated_keys.nd rfl rfl (sw_true rfl rfl rfl (by decide +kernel)) (pi_list (pv 3)) (blkOk_by (own := [("place", 10)]) (N := ["description", "listed", "names", "places", "found", "seen", "row", "given", "pair", "name", "place"]) (sc := defScope s_repeated_keys) (by decide +kernel)) (fun _ _ _ _ _ => pg_name (i := 10) sc_repeated_keys.nd rfl (Or.inl rfl)) (fun _ _ _ _ _ => (pts_one (pt_cmpR op_notN (pe_ix (r := rIxT K) ix_tup (pv 6) (pv 10) (fun _ _ => rfl)) pe_non (nomark _)))) (fun _ _ _ _ _ => (pe_tup (pa_cons (pv 10) (pa_cons (pe_ix (r := rIxT K) ix_tup (pv 6) (pv 10) (fun _ _ => rfl)) pa_nil)))))
        (pss_cut (ps_if (pt_val (pe_callB (cr_any rfl) (by rfl) z.any (by decide +kernel) (pa_cons (pe_lc (own := [("pair", 8)]) (g := gName 8) (tt := tYes) (by rfl) sc_repeated_keys.nd (pi_list (pv 7)) (blkOk_by (own := [("pair", 8)]) (N := ["description", "listed", "names", "places", "found", "seen", "row", "given", "pair", "name", "place"]) (sc := defScope s_repeated_keys) (by decide +kernel)) (fun _ _ _ _ _ => pg_name (i := 8) sc_repeated_keys.nd rfl (Or.inl rfl)) (fun _ _ _ _ _ => pts_nil) (fun _ _ _ _ _ => (pe_cmp (pc_din hu (pv 8) (pv 5)) rfl))) pa_nil))) (pss_one (ps_expr (pe_bm PySem.F.plainAttrs_list PySem.F.slot_list_append PySem.F.type_list_append mt_append (pv 4) (pa_cons (pe_ix ix_tup (pv 6) pe_int (fun _ _ => rfl)) pa_nil)))) pss_nil)
        (pss_one (ps_for PassesOwn.never rfl (pi_list (pv 7)) (pg_name (i := 8) sc_repeated_keys.nd rfl (Or.inl rfl))
        (pss_one (ps_dput hu (pv 5) (pv 8) pe_bl rfl)))))))
        (pss_one (ps_ret (pv 4)))))))), ?_⟩
    have l5 := ok.l5
    have h200 := F.l
    have u4 := ok.u4
    have un : ∀ n ∈ tab.un, n ∈ colNs tab.cols := fun n hn => by
      have := ok.uc n hn
      unfold colNs at this ⊢
      rw [List.map_drop] at this
      exact List.mem_of_mem_drop this
    refine ⟨_, rfl, a.d, a.c, tab.cols, rfl, D.gc, D.co, by omega, fun N H1 hN s1 hN1 => ?_⟩
    have D1 := D.mono s1
    refine ⟨_, rfl, a.d, _, rfl, D1.gu, a.u, rfl, ⟨_, SqL.of D1.un⟩, fun P hP => inner walk_list (fun i H' => H' P = some (.lst ((tab.un.take i).map fun n => V.int (((colNs tab.cols).idxOf n : Nat) : Int))) ∧ Same H1 H') ⟨upd_same, same_new hP _⟩ (fun i H' _ hh => SqL.of (hh.2 _ _ D1.un)) ?_ ?_⟩
    · rintro i x H2 H2' hi ⟨hP2, s2⟩ ⟨rfl, ex⟩
      rw [List.length_map] at hi
      have en : tab.un[i]? = some tab.un[i] := List.getElem?_eq_getElem hi
      rw [List.getElem?_map, en] at ex
      cases ex
      obtain ⟨z, i1, i2, i3, i4⟩ := ix_names (un _ (List.getElem_mem hi))
      refine ⟨rfl, _, rfl, .inl ⟨rfl, _, SqL.of (s2 _ _ hN1)⟩, _, rfl, N, _, _, (colNs tab.cols).idxOf tab.un[i], z, rfl, rfl, SqL.of (s2 _ _ hN1), rfl, i1, i2, i3, i4, _, hP2, (by rw [List.length_map, List.length_take]; exact small1000 (by omega)), ?_, same_upd hP _ s2⟩
      rw [upd_same, take_map (fun n => V.int (((colNs tab.cols).idxOf n : Nat) : Int)) en]
    rintro H2 ⟨hP2, s2⟩
    rw [List.length_map, List.take_length] at hP2
    have S12 : Same H H2 := s1.trans s2
    obtain ⟨xs, hL, lx, hx⟩ := (R.same S12).get
    refine ⟨(by show 0 ≤ sizeLine; decide), fun FD hFD => ?_⟩
    refine fun SE hSE => ?_
    have e3 := same_new hFD (.lst [])
    have e4 := same_new hSE (.dT [])
    have fSE : H2 SE = none := e3.free hSE
    have FS : FD ≠ SE := ne_of_none upd_same hSE
    refine ⟨_, rfl, L, rfl, ⟨_, SqL.of (e4 _ _ (e3 _ _ hL))⟩, for_it walk_list (fun i σ H' => ∃ v6 v7 v8, ∃ kvs : List (List Key × V), σ = [some (.ref a.d), some (.ref L), some (.ref N), some (.ref P), some (.ref FD), some (.ref SE), v6, v7, v8, none, none] ∧ H' FD = some (.lst (((List.range i).filter fun k => badU tab (rws.take k) (rws.getD k [])).map fun k => headV (rws.getD k []))) ∧ H' SE = some (.dT kvs) ∧ (∀ M, M ∈ kvs.map (·.1) ↔ ∃ x ∈ rws.take i, M ∈ givenM tab x) ∧ kvs.length ≤ 4 * i ∧ Same H2 H') ⟨none, none, none, [], rfl, e4 _ _ upd_same, upd_same, (by intro M; simp), Nat.zero_le _, e3.trans e4⟩ (fun i σ H' _ ⟨_, _, _, _, _, _, _, _, _, s⟩ => SqL.of (s _ _ hL)) ?_ ?_⟩
    · rintro i x σ H3 H3' hi ⟨v6, v7, v8, kvs, rfl, hF3, hS3, hk3, lk3, s3⟩ ⟨rfl, ex⟩
      obtain ⟨ra, r, rfl, hr1, hr2⟩ := hx _ _ ex
      have hm := List.mem_of_getElem? hr1
      have hil : i < rws.length := (List.getElem?_eq_some_iff.mp hr1).1
      have hrl : r.length = (colNs tab.cols).length := by rw [F.n r hm]; unfold colNs; rw [List.length_map]
      refine ⟨_, rfl, P, rfl, ⟨_, SqL.of (s3 _ _ hP2)⟩, fun G hG => inner walk_list (fun j H' => ∃ gs, H' G = some (.lst gs) ∧ GivenAt H' gs (givenT tab r j) ∧ Same H3' H') ⟨[], upd_same, ⟨rfl, by intro j v M h; simp at h⟩, same_new hG _⟩ (fun i H' _ ⟨_, _, _, s⟩ => SqL.of (s _ _ (s3 _ _ hP2))) ?_ ?_⟩
      · rintro j y H4 H4' hj ⟨gs, hG4, ga4, s4⟩ ⟨rfl, ey⟩
        rw [List.length_map] at hj
        have en : tab.un[j]? = some tab.un[j] := List.getElem?_eq_getElem hj
        rw [List.getElem?_map, en] at ey
        cases ey
        have hn := un _ (List.getElem_mem hj)
        have hr4 : H4' ra = some (.tup r) := s4 _ _ (s3 _ _ hr2)
        refine ⟨rfl, _, rfl, _, rfl, ra, _, _, _, rfl, rfl, SqT.of hr4, at_ofN rfl (at_some hn hrl), rfl, _, rfl, ?_⟩
        have st := givenT_step (tab := tab) (r := r) en
        refine ifN (fun hv => ?_) (fun hv => ?_)
        · rw [if_neg hv] at st
          refine ⟨_, rfl, _, rfl, _, rfl, ra, _, _, _, rfl, rfl, SqT.of hr4, at_ofN rfl (at_some hn hrl), (by show 2 ≤ sizeLine; decide), fun p hp => ?_⟩
          have e5 := same_new hp (.tup [.int (((colNs tab.cols).idxOf tab.un[j] : Nat) : Int), at_ (colNs tab.cols) r tab.un[j]])
          obtain ⟨_, _, vv⟩ := at_val F hm hn
          have hG5 := e5 _ _ hG4
          refine ⟨gs, hG5, (by rw [ga4.1]; exact small1000 (by have := givenT_len tab r j; omega)), gs ++ [.ref p], upd_same, ?_, same_upd hG _ (s4.trans e5)⟩
          rw [st]
          have ku : KeepT (upd H4' p (.tup [.int (((colNs tab.cols).idxOf tab.un[j] : Nat) : Int), at_ (colNs tab.cols) r tab.un[j]])) (upd (upd H4' p (.tup [.int (((colNs tab.cols).idxOf tab.un[j] : Nat) : Int), at_ (colNs tab.cols) r tab.un[j]])) G (.lst (gs ++ [.ref p]))) := KeepT.upd fun zs z => by rw [hG5] at z; cases z
          refine GivenAt.snoc ((ga4.mono (KeepT.of e5)).mono ku) (ku _ _ ?_)
          rw [upd_same]
          show _ = some (HO.tup [V.int _, kV (vKey (at_ (colNs tab.cols) r tab.un[j]))])
          rw [kV_vKey vv hv]
        · rw [if_pos hv] at st
          exact ⟨gs, hG4, by rw [st]; exact ga4, s4⟩
      rintro H4 ⟨gs, hG4, ga4, s4⟩
      rw [List.length_map, givenT_all tab r (Nat.le_refl _)] at ga4
      have lg : gs.length ≤ 4 := by rw [ga4.1]; have := given_len tab r; omega
      have hF4 := s4 _ _ hF3
      have hS4 := s4 _ _ hS3
      have S4 := s3.trans s4
      have fFD : H2 FD = none := hFD
      have key : (((givenM tab r).map fun M => (valV kvs M).isSome).any id) = badU tab (rws.take i) r := by
        rw [Bool.eq_iff_iff, ← badU_iff ok F hr1, List.any_map, List.any_eq_true]
        constructor
        · rintro ⟨M, h1, h2⟩
          exact ⟨M, h1, (hk3 M).mp (valV_isSome.mp h2)⟩
        · rintro ⟨M, h1, h2⟩
          exact ⟨M, h1, valV_isSome.mpr ((hk3 M).mpr h2)⟩
      have er : rws.getD i [] = r := by rw [List.getD_eq_getElem?_getD, hr1]; rfl
      have stp := range_step (n := 0) (i := i) (fun k => badU tab (rws.take k) (rws.getD k [])) (fun k => headV (rws.getD k []))
      rw [er] at stp
      refine ⟨fun σ H' => ∃ v8, σ = [some (.ref a.d), some (.ref L), some (.ref N), some (.ref P), some (.ref FD), some (.ref SE), some (.ref ra), some (.ref G), v8, none, none] ∧ H' FD = some (.lst (((List.range (i + 1)).filter fun k => badU tab (rws.take k) (rws.getD k [])).map fun k => headV (rws.getD k []))) ∧ H' SE = some (.dT kvs) ∧ H' G = some (.lst gs) ∧ GivenAt H' gs (givenM tab r) ∧ Same H2 H', ?_, ?_⟩
      · refine ⟨_, rfl, G, rfl, ⟨_, SqL.of hG4⟩, fun B hB => inner walk_list (fun j H' => H' B = some (.lst ((((givenM tab r).take j).map fun M => (valV kvs M).isSome).map V.bl)) ∧ Same H4 H') ⟨upd_same, same_new hB _⟩ (fun i H' _ hh => SqL.of (hh.2 _ _ hG4)) ?_ ?_⟩
        · rintro j y H5 H5' hj ⟨hB5, s5⟩ ⟨rfl, ey⟩
          obtain ⟨M, p, eM, rfl, hp⟩ := ga4.get ey
          refine ⟨rfl, _, rfl, _, rfl, SE, _, rfl, DGet.t (s5 _ _ hS4) (s5 _ _ hp), _, hB5, (by rw [List.length_map, List.length_map, List.length_take]; exact small1000 (by omega)), ?_, same_upd hB _ s5⟩
          rw [upd_same, take_map2 (fun M => (valV kvs M).isSome) V.bl eM]
        · rintro H5 ⟨hB5, s5⟩
          rw [ga4.1, List.take_length] at hB5
          refine ⟨B, _, rfl, SqL.of hB5, _, rfl, ?_⟩
          rw [key]
          have S5 := S4.trans s5
          refine ite2 (fun hb => ?_) (fun hb => ?_)
          · rw [if_pos hb] at stp
            obtain ⟨v, vs, rfl⟩ := F.ne ok.l0 hm
            refine ⟨_, rfl, .inl ⟨rfl, _, SqL.of (s5 _ _ hF4)⟩, _, rfl, ra, _, 0, _, rfl, rfl, SqT.of (S5 _ _ hr2), atI_nat (j := 0) rfl, FD, _, _, rfl, rfl, s5 _ _ hF4, (by rw [List.length_map]; refine small1000 ?_; have := List.length_filter_le (fun k => badU tab (rws.take k) (rws.getD k [])) (List.range i); rw [List.length_range] at this; omega), ?_⟩
            have ku : KeepT H5 (upd H5 FD (.lst (((List.range i).filter fun k => badU tab (rws.take k) (rws.getD k [])).map (fun k => headV (rws.getD k [])) ++ [v]))) := KeepT.upd fun zs z => by rw [s5 _ _ hF4] at z; cases z
            refine ⟨_, rfl, by rw [upd_same, stp]; rfl, by rw [upd_ne FS.symm]; exact s5 _ _ hS4, ?_, (ga4.mono (KeepT.of s5)).mono ku, same_upd hFD _ S5⟩
            rw [upd_ne (fun z => ?_)]
            · exact s5 _ _ hG4
            · have := hG; rw [z, hF3] at this; cases this
          · rw [if_neg hb] at stp
            exact ⟨_, rfl, by rw [stp]; exact s5 _ _ hF4, s5 _ _ hS4, s5 _ _ hG4, ga4.mono (KeepT.of s5), S5⟩
      · rintro σ H5 ⟨v8, rfl, hF5, hS5, hG5, ga5, s5⟩
        refine ⟨_, rfl, G, rfl, ⟨_, SqL.of hG5⟩, for_it walk_list (fun j σ H' => ∃ v8, ∃ kvs' : List (List Key × V), σ = [some (.ref a.d), some (.ref L), some (.ref N), some (.ref P), some (.ref FD), some (.ref SE), some (.ref ra), some (.ref G), v8, none, none] ∧ H' FD = some (.lst (((List.range (i + 1)).filter fun k => badU tab (rws.take k) (rws.getD k [])).map fun k => headV (rws.getD k []))) ∧ H' SE = some (.dT kvs') ∧ H' G = some (.lst gs) ∧ GivenAt H' gs (givenM tab r) ∧ Same H2 H' ∧ (∀ M, M ∈ kvs'.map (·.1) ↔ M ∈ (givenM tab r).take j ∨ M ∈ kvs.map (·.1)) ∧ kvs'.length ≤ 4 * i + j) ⟨v8, kvs, rfl, hF5, hS5, hG5, ga5, s5, (by intro M; simp), lk3⟩ (fun i σ H' _ ⟨_, _, _, _, _, e, _⟩ => SqL.of e) ?_ ?_⟩
        · rintro j y σ H6 H6' hj ⟨v8, kvs', rfl, hF6, hS6, hG6, ga6, s6, hk6, lk6⟩ ⟨rfl, ey⟩
          obtain ⟨M, p, eM, rfl, hp⟩ := ga6.get ey
          refine ⟨_, rfl, _, rfl, SE, _, rfl, DPut.t hS6 hp (small1000 (by omega)), ?_⟩
          have ku : KeepT H6' (upd H6' SE (.dT (putK kvs' M (.bl true)))) := KeepT.upd fun zs z => by rw [hS6] at z; cases z
          refine ⟨_, _, rfl, by rw [upd_ne FS]; exact hF6, upd_same, ?_, ga6.mono ku, same_upd fSE _ s6, fun M' => ?_, by have := length_putK kvs' M (.bl true); omega⟩
          · rw [upd_ne (fun z => ?_)]
            · exact hG6
            · rw [z, hS6] at hG6; cases hG6
          · rw [putK_mem, hk6, List.take_add_one, eM, List.mem_append]
            simp only [Option.toList_some, List.mem_singleton]
            constructor
            · rintro (h | h | h)
              · exact .inl (.inr h)
              · exact .inl (.inl h)
              · exact .inr h
            · rintro ((h | h) | h)
              · exact .inr (.inl h)
              · exact .inl h
              · exact .inr (.inr h)
        · rintro σ H6 ⟨v8, kvs', rfl, hF6, hS6, hG6, ga6, s6, hk6, lk6⟩
          refine ⟨_, _, _, kvs', rfl, hF6, hS6, fun M => ?_, by omega, s6⟩
          rw [hk6, ga4.1, List.take_length, hk3, List.take_add_one, hr1]
          simp only [Option.toList_some, List.mem_append, List.mem_singleton]
          constructor
          · rintro (h | ⟨x, h1, h2⟩)
            · exact ⟨r, .inr rfl, h⟩
            · exact ⟨x, .inl h1, h2⟩
          · rintro ⟨x, h1 | rfl, h2⟩
            · exact .inr ⟨x, h1, h2⟩
            · exact .inl h2
    · rintro σ H3 ⟨v6, v7, v8, kvs, rfl, hF3, hS3, hk3, lk3, s3⟩
      rw [lx] at hF3
      exact ⟨_, rfl, q FD H3 hF3 (S12.trans s3)⟩)
theorem ok_compares {f : Addr} {fd : FuncData} (k : Kn K mg "compares" s_compares ["value", "operator", "operand"] f fd) (z : Z mg) :
    Cal P w K mg base 1 "compares" ["value", "operator", "operand"] (spCompares) f fd := k.cal (by
  refine k.F.ok sc_compares (fun vs H Q E h => ?_) (fun cdv A outer s H vs Q E hr h => ?_)
  · obtain ⟨v, op, w, rfl, _⟩ := h; rfl
  · obtain ⟨v, op, y, rfl, ha, q⟩ := h
    refine ⟨_, (pss_cons (ps_if (pt_cmpR op_eq (pv 1) pe_str (nomark _)) (pss_one (ps_ret (pe_cmpR op_eq (pv 0) (pv 2) (nomark _)))) pss_nil)
        (pss_cons (ps_if (pt_cmpR op_eq (pv 1) pe_str (nomark _)) (pss_one (ps_ret (pe_cmpR op_ne (pv 0) (pv 2) (nomark _)))) pss_nil)
        (pss_cons (ps_if (pt_cmpR op_eq (pv 1) pe_str (nomark _)) (pss_one (ps_ret (pe_cmpR (op_either op_lt op_lt_str) (pv 0) (pv 2) (nomark _)))) pss_nil)
        (pss_cons (ps_if (pt_cmpR op_eq (pv 1) pe_str (nomark _)) (pss_one (ps_ret (pe_cmpR (op_either op_le op_le_str) (pv 0) (pv 2) (nomark _)))) pss_nil)
        (pss_cons (ps_if (pt_cmpR op_eq (pv 1) pe_str (nomark _)) (pss_one (ps_ret (pe_cmpR (op_either op_gt op_gt_str) (pv 0) (pv 2) (nomark _)))) pss_nil)
        (pss_one (ps_ret (pe_cmpR (op_either op_ge op_ge_str) (pv 0) (pv 2) (nomark _))))))))), ?_⟩
    unfold cmpM at q
    refine ⟨_, rfl, rfl, _, rfl, ?_⟩
    refine ifD (fun h1 => ?_) (fun h1 => ?_)
    · rw [if_pos (V.str.inj h1)] at q
      exact ⟨_, rfl, _, rfl, alike_scal ha, q⟩
    rw [if_neg (fun z => h1 (congrArg V.str z))] at q
    refine ⟨_, rfl, rfl, _, rfl, ?_⟩
    refine ifD (fun h2 => ?_) (fun h2 => ?_)
    · rw [if_pos (V.str.inj h2)] at q
      exact ⟨_, rfl, _, rfl, alike_scal ha, q⟩
    rw [if_neg (fun z => h2 (congrArg V.str z))] at q
    refine ⟨_, rfl, rfl, _, rfl, ?_⟩
    refine ifD (fun h3 => ?_) (fun h3 => ?_)
    · rw [if_pos (V.str.inj h3)] at q
      rcases ha with ⟨a, b, rfl, rfl⟩ | ⟨a, b, rfl, rfl⟩
      · exact ⟨_, rfl, _, rfl, .inl ⟨a, b, rfl, rfl, q⟩⟩
      · exact ⟨_, rfl, _, rfl, .inr ⟨a, b, rfl, rfl, q⟩⟩
    rw [if_neg (fun z => h3 (congrArg V.str z))] at q
    have le : ∀ a b : Int, (!decide (b < a)) = decide (a ≤ b) := fun a b => by
      by_cases h : b < a
      · have h' : ¬ a ≤ b := by omega
        simp [h]
      · have h' : a ≤ b := by omega
        simp [h']
    refine ⟨_, rfl, rfl, _, rfl, ?_⟩
    refine ifD (fun h4 => ?_) (fun h4 => ?_)
    · rw [if_pos (V.str.inj h4)] at q
      rcases ha with ⟨a, b, rfl, rfl⟩ | ⟨a, b, rfl, rfl⟩
      · refine ⟨_, rfl, _, rfl, .inl ⟨a, b, rfl, rfl, ?_⟩⟩
        have q' : Q (.bl (!decide (b < a))) H := q
        rw [le] at q'
        exact q'
      · exact ⟨_, rfl, _, rfl, .inr ⟨a, b, rfl, rfl, q⟩⟩
    rw [if_neg (fun z => h4 (congrArg V.str z))] at q
    refine ⟨_, rfl, rfl, _, rfl, ?_⟩
    refine ifD (fun h5 => ?_) (fun h5 => ?_)
    · rw [if_pos (V.str.inj h5)] at q
      rcases ha with ⟨a, b, rfl, rfl⟩ | ⟨a, b, rfl, rfl⟩
      · exact ⟨_, rfl, _, rfl, .inl ⟨a, b, rfl, rfl, q⟩⟩
      · exact ⟨_, rfl, _, rfl, .inr ⟨a, b, rfl, rfl, q⟩⟩
    · rw [if_neg (fun z => h5 (congrArg V.str z))] at q
      rcases ha with ⟨a, b, rfl, rfl⟩ | ⟨a, b, rfl, rfl⟩
      · refine ⟨_, rfl, _, rfl, .inl ⟨a, b, rfl, rfl, ?_⟩⟩
        have q' : Q (.bl (!decide (a < b))) H := q
        rw [le] at q'
        exact q'
      · exact ⟨_, rfl, _, rfl, .inr ⟨a, b, rfl, rfl, q⟩⟩)
theorem ok_clause_holds {f : Addr} {fd : FuncData} (k : Kn K mg "clause_holds" s_clause_holds ["clause", "names", "row"] f fd) (z : Z mg)
    {g_compares : Addr} {gd_compares : FuncData} (c_compares : Cal P w K mg base 1 "compares" ["value", "operator", "operand"] (spCompares) g_compares gd_compares) :
    Cal P w K mg base 2 "clause_holds" ["clause", "names", "row"] (spClauseH K) f fd := k.cal (by
  refine k.F.ok sc_clause_holds (fun vs H Q E h => ?_) (fun cdv A outer s H vs Q E hr h => ?_)
  · obtain ⟨a, n, r, cl, names, row, rfl, _⟩ := h; rfl
  · obtain ⟨a, n, r, cl, names, row, rfl, hA, hN, hR, hl, hs, hf, q⟩ := h
    refine ⟨_, (pss_cons (ps_asg (pv 0) (pg_tup (by rfl) (pgs_cons (pg_name (i := 3) sc_clause_holds.nd rfl (Or.inl rfl)) (pgs_cons (pg_name (i := 4) sc_clause_holds.nd rfl (Or.inl rfl)) (pgs_cons (pg_name (i := 5) sc_clause_holds.nd rfl (Or.inl rfl)) pgs_nil)))))
        (pss_cons (ps_set (i := 6) sc_clause_holds.nd rfl (Or.inl rfl) (pe_ix ix_tup (pv 2) (pe_bm PySem.F.plainAttrs_list PySem.F.slot_list_index PySem.F.type_list_index mt_index (pv 1) (pa_cons (pv 3) pa_nil)) (fun _ _ => rfl)))
        (pss_cons (ps_if (pt_cmpR op_eq (pv 4) pe_str (nomark _)) (pss_one (ps_ret (pe_cmpR op_isN (pv 6) pe_non (nomark _)))) pss_nil)
        (pss_cons (ps_if (pt_cmpR op_eq (pv 4) pe_str (nomark _)) (pss_one (ps_ret (pe_cmpR op_notN (pv 6) pe_non (nomark _)))) pss_nil)
        (pss_one (ps_ret (pe_and (pe_cmpR op_notN (pv 6) pe_non (nomark _)) (pe_one (pe_call c_compares.G (hr.mono (by decide)) (by rfl) c_compares.m c_compares.kp c_compares.b .nil pass0 (pa_cons (pv 6) (pa_cons (pv 4) (pa_cons (pv 5) pa_nil)))))))))))), ?_⟩
    obtain ⟨z1, z2, z3, z4, z5⟩ := ix_names hf.1
    refine ⟨_, rfl, a, _, rfl, hA, rfl, _, _, rfl, _, _, rfl, _, _, rfl, rfl, ?_⟩
    refine ⟨_, rfl, _, rfl, .inl ⟨rfl, _, hN⟩, _, rfl, n, _, _, names.idxOf cl.n, z1, rfl, rfl, hN, rfl, z2, z3, z4, z5, r, _, _, _, rfl, rfl, hR, at_ofN rfl (at_some hf.1 hl), ?_⟩
    unfold clauseM at q
    refine ⟨_, rfl, rfl, _, rfl, ?_⟩
    refine ifD (fun h1 => ?_) (fun h1 => ?_)
    · rw [if_pos (V.str.inj h1)] at q
      exact ⟨_, rfl, rfl, q⟩
    rw [if_neg (fun z => h1 (congrArg V.str z))] at q
    refine ⟨_, rfl, rfl, _, rfl, ?_⟩
    refine ifD (fun h2 => ?_) (fun h2 => ?_)
    · rw [if_pos (V.str.inj h2)] at q
      exact ⟨_, rfl, rfl, q⟩
    rw [if_neg (fun z => h2 (congrArg V.str z))] at q
    refine ⟨_, rfl, rfl, _, rfl, ?_⟩
    refine ifN (fun h3 => ?_) (fun h3 => ?_)
    · rw [if_neg h3] at q
      have al : Alike (at_ names row cl.n) cl.v := by
        rcases hf.2 with z | z | z | z
        · exact absurd (congrArg V.str z) h1
        · exact absurd (congrArg V.str z) h2
        · exact absurd z h3
        · exact z
      exact ⟨_, rfl, _, rfl, _, rfl, _, _, _, rfl, al, q⟩
    · rw [if_pos h3] at q
      exact q)
theorem ok_holds {f : Addr} {fd : FuncData} (k : Kn K mg "holds" s_holds ["condition", "names", "row"] f fd) (z : Z mg)
    {g_clause_holds : Addr} {gd_clause_holds : FuncData} (c_clause_holds : Cal P w K mg base 2 "clause_holds" ["clause", "names", "row"] (spClauseH K) g_clause_holds gd_clause_holds) :
    Cal P w K mg base 3 "holds" ["condition", "names", "row"] (spHolds) f fd := k.cal (by
  refine k.F.ok sc_holds (fun vs H Q E h => ?_) (fun cdv A outer s H vs Q E hr h => ?_)
  · obtain ⟨c, n, r, cond, names, row, rfl, _⟩ := h; rfl
  · obtain ⟨c, n, r, cond, names, row, rfl, A, q⟩ := h
    refine ⟨_, (pss_cons (ps_for PassesOwn.never rfl (pi_tup (pv 0)) (pg_name (i := 3) sc_holds.nd rfl (Or.inl rfl))
        (pss_one (ps_if (pt_val (pe_callB (cr_all rfl) (by rfl) z.all (by decide +kernel) (pa_cons (pe_lc (own := [("clause", 4)]) (g := gName 4) (tt := tYes) (by rfl) sc_holds.nd (pi_tup (pv 3)) (blkOk_by (own := [("clause", 4)]) (N := ["condition", "names", "row", "alternative", "clause"]) (sc := defScope s_holds) (by decide +kernel)) (fun _ _ _ _ _ => pg_name (i := 4) sc_holds.nd rfl (Or.inl rfl)) (fun _ _ _ _ _ => pts_nil) (fun _ _ _ _ _ => (pe_call c_clause_holds.G (hr.mono (by decide)) (by rfl) c_clause_holds.m c_clause_holds.kp c_clause_holds.b .nil pass0 (pa_cons (pv 4) (pa_cons (pv 1) (pa_cons (pv 2) pa_nil)))))) pa_nil))) (pss_one (ps_ret pe_bl)) pss_nil)))
        (pss_one (ps_ret pe_bl))), ?_⟩
    obtain ⟨c', xs, e, hc, rc⟩ := t_at A.cn
    cases e
    have hx : xs.length = cond.length := by rw [rc.length, List.length_map]
    refine ⟨_, rfl, c, rfl, ⟨_, SqT.of hc⟩, for_tup (K := K) (a := c) (xs := xs) (fun i σ H' => (∃ v3 v4, σ = [some (.ref c), some (.ref n), some (.ref r), v3, v4]) ∧ Same H H' ∧ (cond.take i).any (altM names row) = false) ⟨⟨none, none, rfl⟩, Same.refl _, rfl⟩ (fun i σ H' _ hh => SqT.of (hh.2.1 _ _ hc)) ?_ ?_⟩
    · rintro i x σ H1 hi ⟨⟨v3, v4, rfl⟩, s1, f1⟩
      have hil : i < cond.length := by rw [← hx]; exact (List.getElem?_eq_some_iff.mp hi).1
      have ec : cond[i]? = some cond[i] := List.getElem?_eq_getElem hil
      have hm : cond[i] ∈ cond := List.getElem_mem hil
      obtain ⟨v, k1, k2⟩ := rc.get' (i := i) (d := altD cond[i]) (by rw [List.getElem?_map, ec]; rfl)
      rw [hi] at k1
      cases k1
      obtain ⟨al, ys, rfl, ha, ra⟩ := t_at k2
      have A1 := A.mono s1
      have hy : ys.length = cond[i].length := by rw [ra.length, List.length_map]
      refine ⟨_, rfl, al, rfl, ⟨_, SqT.of (s1 _ _ ha)⟩, fun D hD => lc_tup (K := K) (a := al) (xs := ys) (fun j H' => H' D = some (.lst (((cond[i].take j).map (clauseM names row)).map V.bl)) ∧ Same H1 H') ⟨upd_same, same_new hD _⟩ (fun j H' _ hh => SqT.of (hh.2 _ _ (s1 _ _ ha))) ?_ ?_⟩
      · rintro j y H2 hj ⟨D2, s2⟩
        have hjl : j < cond[i].length := by rw [← hy]; exact (List.getElem?_eq_some_iff.mp hj).1
        have ej : cond[i][j]? = some cond[i][j] := List.getElem?_eq_getElem hjl
        have hmj : cond[i][j] ∈ cond[i] := List.getElem_mem hjl
        obtain ⟨v, g1, g2⟩ := ra.get' (i := j) (d := clD cond[i][j]) (by rw [List.getElem?_map, ej]; rfl)
        rw [hj] at g1
        cases g1
        obtain ⟨ca, rfl, hca, hsc⟩ := cl_at g2
        have A2 := A1.mono s2
        refine ⟨rfl, _, rfl, _, rfl, _, rfl, ca, n, r, cond[i][j], names, row, rfl, SqT.of (s2 _ _ (s1 _ _ hca)), SqL.of A2.nm, SqT.of A2.rw, A.ln, at_scal A.sc, A.ft _ hm _ hmj, ?_⟩
        refine ⟨_, D2, (by rw [List.length_map, List.length_map, List.length_take]; have := A.sm _ hm; exact small1000 (by omega)), ?_, same_upd hD _ s2⟩
        rw [upd_same, List.take_add_one, ej, List.map_append, List.map_append]
        rfl
      · rintro H2 ⟨D2, s2⟩
        have et : cond[i].take ys.length = cond[i] := List.take_of_length_le (by omega)
        rw [et] at D2
        refine ⟨D, _, rfl, SqL.of D2, ?_⟩
        have ea : ((cond[i].map (clauseM names row)).all id) = altM names row cond[i] := by unfold altM; rw [List.all_map]; rfl
        rw [ea]
        refine ⟨_, rfl, ?_⟩
        refine ite2 (fun hb => ?_) (fun hb => ?_)
        · have eh : holdsM names row cond = true := by
            unfold holdsM
            rw [List.any_eq_true]
            exact ⟨_, hm, hb⟩
          rw [eh] at q
          exact q _ (s1.trans s2)
        · refine ⟨⟨_, _, rfl⟩, s1.trans s2, ?_⟩
          rw [any_take ec, f1]
          simpa using hb
    · rintro σ H1 ⟨⟨v3, v4, rfl⟩, s1, f1⟩
      have et : cond.take xs.length = cond := List.take_of_length_le (by omega)
      rw [et] at f1
      have eh : holdsM names row cond = false := f1
      rw [eh] at q
      exact q _ s1)
theorem ok_unchecked_keys {f : Addr} {fd : FuncData} (k : Kn K mg "unchecked_keys" s_unchecked_keys ["description", "listed"] f fd) (z : Z mg)
    {g_column_names : Addr} {gd_column_names : FuncData} (c_column_names : Cal P w K mg base 1 "column_names" ["description"] (spColumnNames) g_column_names gd_column_names)
    {g_holds : Addr} {gd_holds : FuncData} (c_holds : Cal P w K mg base 3 "holds" ["condition", "names", "row"] (spHolds) g_holds gd_holds) :
    Cal P w K mg base 4 "unchecked_keys" ["description", "listed"] (fun vs H Q _ => ∃ (a : Ads) (tab : Tab) (L : Addr) (rws : List (List V)) (fr : List (Str × List Col)), vs = [.ref a.d, .ref L] ∧ DescAt H a tab ∧ TabOk fr tab ∧ RowsAt H L rws ∧ RowsFit tab.cols rws ∧ ∀ N H', H' N = some (.lst (keysC tab rws)) → Same H H' → Q (.ref N) H') f fd := k.cal (by
  refine k.F.ok sc_unchecked_keys (fun vs H Q E h => ?_) (fun cdv A outer s H vs Q E hr h => ?_)
  · obtain ⟨a, tab, L, rws, fr, rfl, _⟩ := h; rfl
  · obtain ⟨a, tab, L, rws, fr, rfl, D, ok, R, F, q⟩ := h
    have hu := hu_of hr
    refine ⟨_, (pss_cons (ps_set (i := 2) sc_unchecked_keys.nd rfl (Or.inr rfl) (pe_call c_column_names.G (hr.mono (by decide)) (by rfl) c_column_names.m c_column_names.kp c_column_names.b .nil pass0 (pa_cons (pv 0) pa_nil)))
        (pss_one (ps_ret (pe_lc (own := [("row", 3)]) (g := gName 3) (tt := (tNot (tB (tCB (rAll K) (tCons (tLc (iList K (tDGet (tVar 0) (tC (.str "checks")))) (gName 4) tYes (tCall (spHolds) [] E0 (tCons (tVar 4) (tCons (tVar 2) (tCons (tVar 3) tNil)))) [4]) tNil))))) (by rfl) sc_unchecked_keys.nd (pi_list (pv 1)) (blkOk_by (own := [("row", 3)]) (N := ["description", "listed", "names", "row", "check"]) (sc := defScope s_unchecked_keys) (by decide +kernel)) (fun _ _ _ _ _ => pg_name (i := 3) sc_unchecked_keys.nd rfl (Or.inr rfl)) (fun _ _ _ _ _ => (pts_one (pt_not (pt_val (pe_callB (cr_all rfl) (by rfl) z.all (by decide +kernel) (pa_cons (pe_lc (own := [("check", 4)]) (g := gName 4) (tt := tYes) (by rfl) sc_unchecked_keys.nd (pi_list (pe_dget hu (pv 0) pe_str (fun _ _ => rfl))) (blkOk_by (own := [("check", 4)]) (N := ["description", "listed", "names", "row", "check"]) (sc := relS _ (defScope s_unchecked_keys)) (by decide +kernel)) (fun _ _ _ _ _ => pg_name (i := 4) sc_unchecked_keys.nd rfl (Or.inl rfl)) (fun _ _ _ _ _ => pts_nil) (fun _ _ _ _ _ => (pe_call c_holds.G (hr.mono (by decide)) (by rfl) c_holds.m c_holds.kp c_holds.b .nil pass0 (pa_cons (pv 4) (pa_cons (pv 2) (pa_cons (pv 3) pa_nil)))))) pa_nil)))))) (fun _ _ _ _ _ => (pe_ix (r := rIxT K) ix_tup (pv 3) pe_int (fun _ _ => rfl))))))), ?_⟩
    have l5 := ok.l5
    have h200 := F.l
    have c4 := ok.c4
    refine ⟨_, rfl, a.d, a.c, tab.cols, rfl, D.gc, D.co, by omega, fun N H1 hN s1 hN1 => ?_⟩
    have D1 := D.mono s1
    obtain ⟨xs, hL, lx, hx⟩ := (R.same s1).get
    obtain ⟨xk, k1, k2⟩ := D1.ch
    have lk : xk.length = tab.ch.length := by rw [k2.length, List.length_map]
    refine ⟨_, rfl, L, rfl, ⟨_, SqL.of hL⟩, fun E hE => inner walk_list (fun i H' => H' E = some (.lst (((rws.take i).filter (badC tab)).map headV)) ∧ Same H1 H') ⟨upd_same, same_new hE _⟩ (fun i H' _ hh => SqL.of (hh.2 _ _ hL)) ?_ ?_⟩
    · rintro i x H2 H2' hi ⟨hE2, s2⟩ ⟨rfl, ex⟩
      obtain ⟨ra, r, rfl, hr1, hr2⟩ := hx _ _ ex
      have hm := List.mem_of_getElem? hr1
      have D2 := D1.mono s2
      refine ⟨rfl, _, rfl, a.d, _, rfl, D2.gk, a.k, rfl, ⟨_, SqL.of (s2 _ _ k1)⟩, fun G hG => inner walk_list (fun j H' => H' G = some (.lst (((tab.ch.take j).map (holdsM (colNs tab.cols) r)).map V.bl)) ∧ Same H2' H') ⟨upd_same, same_new hG _⟩ (fun i H' _ hh => SqL.of (hh.2 _ _ (s2 _ _ k1))) ?_ ?_⟩
      · rintro j y H3 H3' hj ⟨hG3, s3⟩ ⟨rfl, ey⟩
        have hjl : j < tab.ch.length := by omega
        have ec : tab.ch[j]? = some tab.ch[j] := List.getElem?_eq_getElem hjl
        obtain ⟨v, g1, g2⟩ := k2.get' (i := j) (d := condD tab.ch[j]) (by rw [List.getElem?_map, ec]; rfl)
        rw [ey] at g1
        cases g1
        obtain ⟨ca, ws, rfl, ha, rra⟩ := t_at g2
        have cs := ok.cc _ (List.getElem_mem hjl)
        have S3 : Same H1 H3' := s2.trans s3
        refine ⟨rfl, _, rfl, _, rfl, _, rfl, ca, N, ra, tab.ch[j], colNs tab.cols, r, rfl, ⟨g2.mono (KeepT.of S3), S3 _ _ hN1, S3 _ _ hr2, by rw [F.n r hm]; unfold colNs; rw [List.length_map], F.scal hm, fun x hx cl hcl => fit_of ok.co.nd (F.n r hm) (F.v r hm) ((cs.2 x hx).2 cl hcl), fun x hx => by have := (cs.2 x hx).1; omega⟩, fun H4 s4 => ?_⟩
        refine ⟨_, s4 _ _ hG3, (by rw [List.length_map, List.length_map, List.length_take]; exact small1000 (by omega)), ?_, same_upd hG _ (s3.trans s4)⟩
        rw [upd_same, take_map2 (holdsM (colNs tab.cols) r) V.bl ec]
      · rintro H3 ⟨hG3, s3⟩
        rw [lk, List.take_length] at hG3
        refine ⟨G, _, rfl, SqL.of hG3, _, rfl, ?_⟩
        have ee : (tab.ch.map (holdsM (colNs tab.cols) r)).all id = tab.ch.all (holdsM (colNs tab.cols) r) := List.all_map
        rw [ee]
        have S3 : Same H1 H3 := s2.trans s3
        refine ite2 (fun hb => ?_) (fun hb => ?_)
        · obtain ⟨v, vs, rfl⟩ := F.ne ok.l0 hm
          refine ⟨_, rfl, ra, _, 0, _, rfl, rfl, SqT.of (S3 _ _ hr2), atI_nat (j := 0) rfl, _, s3 _ _ hE2, (by rw [List.length_map]; refine small1000 ?_; have := List.length_filter_le (badC tab) (rws.take i); rw [List.length_take] at this; omega), ?_, same_upd hE _ S3⟩
          rw [upd_same, List.take_add_one, hr1]
          show _ = some (HO.lst (List.map headV (List.filter (badC tab) (rws.take i ++ [v :: vs]))))
          rw [List.filter_append, List.map_append, List.filter_cons, if_pos (show badC tab (v :: vs) = true from hb)]
          rfl
        · refine ⟨?_, S3⟩
          rw [List.take_add_one, hr1]
          show _ = some (HO.lst (List.map headV (List.filter (badC tab) (rws.take i ++ [r]))))
          rw [List.filter_append, List.filter_cons, if_neg (show ¬ badC tab r = true from hb), List.filter_nil, List.append_nil]
          exact s3 _ _ hE2
    · rintro H2 ⟨hE2, s2⟩
      rw [lx, List.take_length] at hE2
      exact q E H2 hE2 (s1.trans s2))
theorem ok_excess_keys {f : Addr} {fd : FuncData} (k : Kn K mg "excess_keys" s_excess_keys ["listed"] f fd) (z : Z mg) :
    Cal P w K mg base 1 "excess_keys" ["listed"] (fun vs H Q _ => ∃ (L : Addr) (rws : List (List V)) (cols : List Col), vs = [.ref L] ∧ RowsAt H L rws ∧ RowsFit cols rws ∧ 1 ≤ cols.length ∧ ∀ N H', H' N = some (.lst (keysF rws)) → Same H H' → Q (.ref N) H') f fd := k.cal (by
  obtain ⟨t_MOST_ROWS, k_MOST_ROWS⟩ := z.c_MOST_ROWS
  refine k.F.ok sc_excess_keys (fun vs H Q E h => ?_) (fun cdv A outer s H vs Q E hr h => ?_)
  · obtain ⟨L, rws, cols, rfl, _⟩ := h; rfl
  · obtain ⟨L, rws, cols, rfl, R, F, l0, q⟩ := h
    refine ⟨_, (pss_one (ps_ret (pe_lc (own := [("row", 1)]) (g := gName 1) (tt := tYes) (by rfl) sc_excess_keys.nd (pi_list (pe_slice sl_list (pv 0) (po_some (pe_glob (v := .int (60)) rfl k_MOST_ROWS ⟨_, rfl⟩)) po_none)) (blkOk_by (own := [("row", 1)]) (N := ["listed", "row"]) (sc := defScope s_excess_keys) (by decide +kernel)) (fun _ _ _ _ _ => pg_name (i := 1) sc_excess_keys.nd rfl (Or.inl rfl)) (fun _ _ _ _ _ => pts_nil) (fun _ _ _ _ _ => (pe_ix (r := rIxT K) ix_tup (pv 1) pe_int (fun _ _ => rfl)))))), ?_⟩
    obtain ⟨xs, hL, lx, hx⟩ := R.get
    refine ⟨_, rfl, _, rfl, L, _, rfl, SqL.of hL, fun D hD => ?_⟩
    have e1 := same_new hD (.lst (cutV xs (some 60) none))
    have ec : cutV xs (some 60) none = xs.drop 60 := by
      unfold cutV
      have a1 : HT.sIx xs.length 0 (some 60) = min 60 xs.length := HT.sIx_nat _ _ 60
      have a2 : HT.sIx xs.length xs.length none = xs.length := rfl
      rw [a1, a2]
      rcases Nat.le_total 60 xs.length with h | h
      · rw [Nat.min_eq_left h, List.take_of_length_le (by rw [List.length_drop]; omega)]
      · rw [Nat.min_eq_right h, List.drop_eq_nil_of_le (Nat.le_refl _), List.drop_eq_nil_of_le h, List.take_nil]
    have h200 := F.l
    refine ⟨D, rfl, ⟨_, SqL.of upd_same⟩, fun E hE => inner walk_list (fun i H' => H' E = some (.lst (((rws.drop 60).take i).map headV)) ∧ Same (upd H D (.lst (cutV xs (some 60) none))) H') ⟨upd_same, same_new hE _⟩ (fun i H' _ hh => SqL.of (hh.2 _ _ upd_same)) ?_ ?_⟩
    · rintro i x H1 H1' hi ⟨hE1, s1⟩ ⟨rfl, ex⟩
      rw [ec, List.getElem?_drop] at ex
      obtain ⟨a, r, rfl, hr1, hr2⟩ := hx _ _ ex
      have er : (rws.drop 60)[i]? = some r := by rw [List.getElem?_drop]; exact hr1
      obtain ⟨v, vs, rfl⟩ := F.ne l0 (List.mem_of_getElem? hr1)
      refine ⟨rfl, _, rfl, a, _, 0, _, rfl, rfl, SqT.of (s1 _ _ (e1 _ _ hr2)), atI_nat (j := 0) rfl, _, hE1, (by rw [List.length_map, List.length_take, List.length_drop]; exact small1000 (by omega)), ?_, same_upd hE _ s1⟩
      rw [upd_same, take_map headV er]; rfl
    · rintro H1 ⟨hE1, s1⟩
      have : (rws.drop 60).take (cutV xs (some 60) none).length = rws.drop 60 := List.take_of_length_le (by rw [ec, List.length_drop, List.length_drop]; omega)
      rw [this] at hE1
      exact q E H1 hE1 (e1.trans s1))
theorem ok_table_fault {f : Addr} {fd : FuncData} (k : Kn K mg "table_fault" s_table_fault ["schema", "state", "table"] f fd) (z : Z mg)
    {g_rows : Addr} {gd_rows : FuncData} (c_rows : Cal P w K mg base 1 "rows" ["state", "table"] (spRows) g_rows gd_rows)
    {g_lost_keys : Addr} {gd_lost_keys : FuncData} (c_lost_keys : Cal P w K mg base 2 "lost_keys" ["description", "listed", "state"] (spLost) g_lost_keys gd_lost_keys)
    {g_repeated_keys : Addr} {gd_repeated_keys : FuncData} (c_repeated_keys : Cal P w K mg base 2 "repeated_keys" ["description", "listed"] (fun vs H Q _ => ∃ (a : Ads) (tab : Tab) (L : Addr) (rws : List (List V)) (fr : List (Str × List Col)), vs = [.ref a.d, .ref L] ∧ DescAt H a tab ∧ TabOk fr tab ∧ RowsAt H L rws ∧ RowsFit tab.cols rws ∧ ∀ N H', H' N = some (.lst (keysU tab rws)) → Same H H' → Q (.ref N) H') g_repeated_keys gd_repeated_keys)
    {g_unchecked_keys : Addr} {gd_unchecked_keys : FuncData} (c_unchecked_keys : Cal P w K mg base 4 "unchecked_keys" ["description", "listed"] (fun vs H Q _ => ∃ (a : Ads) (tab : Tab) (L : Addr) (rws : List (List V)) (fr : List (Str × List Col)), vs = [.ref a.d, .ref L] ∧ DescAt H a tab ∧ TabOk fr tab ∧ RowsAt H L rws ∧ RowsFit tab.cols rws ∧ ∀ N H', H' N = some (.lst (keysC tab rws)) → Same H H' → Q (.ref N) H') g_unchecked_keys gd_unchecked_keys)
    {g_excess_keys : Addr} {gd_excess_keys : FuncData} (c_excess_keys : Cal P w K mg base 1 "excess_keys" ["listed"] (fun vs H Q _ => ∃ (L : Addr) (rws : List (List V)) (cols : List Col), vs = [.ref L] ∧ RowsAt H L rws ∧ RowsFit cols rws ∧ 1 ≤ cols.length ∧ ∀ N H', H' N = some (.lst (keysF rws)) → Same H H' → Q (.ref N) H') g_excess_keys gd_excess_keys) :
    Cal P w K mg base 5 "table_fault" ["schema", "state", "table"] (spTableFault) f fd := k.cal (by
  refine k.F.ok sc_table_fault (fun vs H Q E h => ?_) (fun cdv A outer s H vs Q E hr h => ?_)
  · obtain ⟨S, s, T, st, p, rfl, _⟩ := h; rfl
  · obtain ⟨S, s, T, st, p, rfl, B, hp, q⟩ := h
    have hu := hu_of hr
    refine ⟨_, (pss_cons (ps_set (i := 3) sc_table_fault.nd rfl (Or.inl rfl) (pe_dget hu (pv 0) (pv 2) (fun _ _ => rfl)))
        (pss_cons (ps_set (i := 4) sc_table_fault.nd rfl (Or.inl rfl) (pe_call c_rows.G (hr.mono (by decide)) (by rfl) c_rows.m c_rows.kp c_rows.b .nil pass0 (pa_cons (pv 1) (pa_cons (pv 2) pa_nil))))
        (pss_cons (ps_for PassesOwn.never rfl (pi_tup (pe_tup (pa_cons (pe_tup (pa_cons pe_str (pa_cons (pe_call c_excess_keys.G (hr.mono (by decide)) (by rfl) c_excess_keys.m c_excess_keys.kp c_excess_keys.b .nil pass0 (pa_cons (pv 4) pa_nil)) pa_nil))) (pa_cons (pe_tup (pa_cons pe_str (pa_cons (pe_call c_unchecked_keys.G (hr.mono (by decide)) (by rfl) c_unchecked_keys.m c_unchecked_keys.kp c_unchecked_keys.b .nil pass0 (pa_cons (pv 3) (pa_cons (pv 4) pa_nil))) pa_nil))) (pa_cons (pe_tup (pa_cons pe_str (pa_cons (pe_call c_repeated_keys.G (hr.mono (by decide)) (by rfl) c_repeated_keys.m c_repeated_keys.kp c_repeated_keys.b .nil pass0 (pa_cons (pv 3) (pa_cons (pv 4) pa_nil))) pa_nil))) (pa_cons (pe_tup (pa_cons pe_str (pa_cons (pe_call c_lost_keys.G (hr.mono (by decide)) (by rfl) c_lost_keys.m c_lost_keys.kp c_lost_keys.b .nil pass0 (pa_cons (pv 3) (pa_cons (pv 4) (pa_cons (pv 1) pa_nil)))) pa_nil))) pa_nil)))))) (pg_tup (by rfl) (pgs_cons (pg_name (i := 5) sc_table_fault.nd rfl (Or.inl rfl)) (pgs_cons (pg_name (i := 6) sc_table_fault.nd rfl (Or.inl rfl)) pgs_nil)))
        (pss_one (ps_if (pt_cmpR (op_neD hr.units) (pv 6) (pe_lst pa_nil) (nomark _)) (pss_one (ps_ret (pe_tup (pa_cons (pv 5) (pa_cons (pv 2) (pa_cons (pe_ix ix_list (pv 6) pe_int (fun _ _ => rfl)) pa_nil)))))) pss_nil)))
        (pss_one (ps_ret pe_non))))), ?_⟩
    have ok := B.ok p hp
    obtain ⟨tq, htq, etq, fit⟩ := B.fit p hp
    have A := B.sa.ds tq htq
    have F := rowsM_fit A.nd fit ok.co.hd
    rw [faultN_eq B.nm B.sa.nm hp htq etq] at q
    refine ⟨_, rfl, _, rfl, S, _, rfl, sch_getK B.sk B.nm hp, ?_⟩
    refine ⟨_, rfl, _, rfl, T, p.2.n, tq.d, tq.rs, rfl, by rw [← etq]; exact B.sa.get htq, A, B.key hp fit, DB.rest ok.l5 fit, fit.l, fun L H1 R1 s1 _ => ?_⟩
    refine ⟨_, rfl, L, rowsM tq.rs, p.2.cols, rfl, R1, F, ok.l0, fun N1 H2 n1 s2 => ⟨(by show 2 ≤ sizeLine; decide), fun t1 ht1 => ?_⟩⟩
    have e1 := same_new ht1 (.tup [.str "full", .ref N1])
    have S2 : Same H1 (upd H2 t1 (.tup [.str "full", .ref N1])) := s2.trans e1
    refine ⟨_, rfl, _, rfl, p.1, p.2, L, rowsM tq.rs, frOf s, rfl, (B.ds p hp).mono (s1.trans S2), ok, R1.same S2, F, fun N2 H3 n2 s3 => ⟨(by show 2 ≤ sizeLine; decide), fun t2 ht2 => ?_⟩⟩
    have e2 := same_new ht2 (.tup [.str "check", .ref N2])
    have S3 : Same H1 (upd H3 t2 (.tup [.str "check", .ref N2])) := S2.trans (s3.trans e2)
    refine ⟨_, rfl, _, rfl, p.1, p.2, L, rowsM tq.rs, frOf s, rfl, (B.ds p hp).mono (s1.trans S3), ok, R1.same S3, F, fun N3 H4 n3 s4 => ⟨(by show 2 ≤ sizeLine; decide), fun t3 ht3 => ?_⟩⟩
    have e3 := same_new ht3 (.tup [.str "unique", .ref N3])
    have S4 : Same H1 (upd H4 t3 (.tup [.str "unique", .ref N3])) := S3.trans (s4.trans e3)
    refine ⟨_, rfl, _, rfl, _, rfl, S, s, T, st, p, L, rowsM tq.rs, rfl, B.mono (s1.trans S4), hp, R1.same S4, F, fun N4 H5 n4 s5 => ⟨(by show 2 ≤ sizeLine; decide), fun t4 ht4 => ?_⟩⟩
    have e4 := same_new ht4 (.tup [.str "reference", .ref N4])
    refine ⟨(by show 4 ≤ sizeLine; decide), fun TT hTT => ?_⟩
    have e5 := same_new hTT (.tup [.ref t1, .ref t2, .ref t3, .ref t4])
    have m5 := (s5.trans e4).trans e5
    have m4 := (s4.trans e3).trans m5
    have m3 := (s3.trans e2).trans m4
    have m2 := e1.trans m3
    have k1 := m3 t1 (.tup [.str "full", .ref N1]) upd_same
    have k2 := m4 t2 (.tup [.str "check", .ref N2]) upd_same
    have k3 := m5 t3 (.tup [.str "unique", .ref N3]) upd_same
    have k4 := e5 t4 (.tup [.str "reference", .ref N4]) upd_same
    have q1 := m2 _ _ n1
    have q2 := (e2.trans m4) _ _ n2
    have q3 := (e3.trans m5) _ _ n3
    have q4 := (e4.trans e5) _ _ n4
    have S5 : Same H (upd (upd H5 t4 (.tup [.str "reference", .ref N4])) TT (.tup [.ref t1, .ref t2, .ref t3, .ref t4])) := s1.trans (S4.trans m5)
    have item : ∀ (i : Nat) (x : V), [V.ref t1, V.ref t2, V.ref t3, V.ref t4][i]? = some x → ∃ (t N : Addr) (c : Str × List V), x = .ref t ∧ (codesM (stKs st) p.2 (rowsM tq.rs))[i]? = some c ∧ (upd (upd H5 t4 (.tup [.str "reference", .ref N4])) TT (.tup [.ref t1, .ref t2, .ref t3, .ref t4])) t = some (.tup [.str c.1, .ref N]) ∧ (upd (upd H5 t4 (.tup [.str "reference", .ref N4])) TT (.tup [.ref t1, .ref t2, .ref t3, .ref t4])) N = some (.lst c.2) := by
      intro i x hx
      match i, hx with
      | 0, hx => cases hx; exact ⟨t1, N1, _, rfl, rfl, k1, q1⟩
      | 1, hx => cases hx; exact ⟨t2, N2, _, rfl, rfl, k2, q2⟩
      | 2, hx => cases hx; exact ⟨t3, N3, _, rfl, rfl, k3, q3⟩
      | 3, hx => cases hx; exact ⟨t4, N4, _, rfl, rfl, k4, q4⟩
      | n + 4, hx => simp at hx
    have hTu : (upd (upd H5 t4 (.tup [.str "reference", .ref N4])) TT (.tup [.ref t1, .ref t2, .ref t3, .ref t4])) TT = some (.tup [.ref t1, .ref t2, .ref t3, .ref t4]) := upd_same
    generalize (upd (upd H5 t4 (.tup [.str "reference", .ref N4])) TT (.tup [.ref t1, .ref t2, .ref t3, .ref t4])) = HC at S5 item hTu ⊢
    rw [faultT_codes] at q
    refine ⟨TT, rfl, ⟨_, SqT.of hTu⟩, for_it walk_tup (fun i σ H' => ∃ v5 v6, σ = [some (.ref S), some (.ref T), some (.str p.2.n), some (.ref p.1.d), some (.ref L), v5, v6] ∧ Same HC H' ∧ ((codesM (stKs st) p.2 (rowsM tq.rs)).take i).findSome? hitM = none) ⟨none, none, rfl, Same.refl _, rfl⟩ (fun i σ H' _ ⟨_, _, _, e, _⟩ => SqT.of (e _ _ hTu)) ?_ ?_⟩
    · rintro i x σ H6 H6' hi ⟨v5, v6, rfl, s6, no⟩ ⟨rfl, ex⟩
      obtain ⟨t, N, c, rfl, ec, ht, hN⟩ := item i x ex
      have ht6 := s6 _ _ ht
      have hN6 := s6 _ _ hN
      refine ⟨t, _, rfl, SqT.of ht6, rfl, _, _, rfl, _, _, rfl, rfl, ?_⟩
      refine ⟨_, rfl, (by show 0 ≤ sizeLine; decide), fun e he => ?_⟩
      have e7 := same_new he (.lst [])
      have vv := codes_val (ks := stKs st) (tab := p.2) F ok.l0 c (List.mem_of_getElem? ec)
      refine ne_empty (e7 _ _ hN6) upd_same vv ⟨_, rfl, ?_⟩
      obtain ⟨cn, ck⟩ := c
      cases ck with
      | nil => exact ⟨_, _, rfl, s6.trans e7, findSome_step ec no rfl⟩
      | cons kv kr =>
        have hit := findSome_hit ec no (show hitM (cn, kv :: kr) = some (cn, kv) from rfl)
        rw [hit] at q
        refine ⟨_, rfl, _, rfl, _, rfl, N, _, 0, _, rfl, rfl, SqL.of (e7 _ _ hN6), atI_nat (j := 0) rfl, (by show 3 ≤ sizeLine; decide), fun pr hpr => ?_⟩
        have e8 := same_new hpr (.tup [.str cn, .str p.2.n, kv])
        obtain ⟨_, _, vk⟩ := vv kv List.mem_cons_self
        exact q (.ref pr) _ ⟨pr, rfl, upd_same, vk.scal⟩ (S5.trans (s6.trans (e7.trans e8)))
    · rintro σ H6 ⟨v5, v6, rfl, s6, no⟩
      have e : (codesM (stKs st) p.2 (rowsM tq.rs)).findSome? hitM = none := no
      rw [e] at q
      exact q .non H6 rfl (S5.trans s6))
theorem ok_first_fault {f : Addr} {fd : FuncData} (k : Kn K mg "first_fault" s_first_fault ["schema", "state"] f fd) (z : Z mg)
    {g_table_fault : Addr} {gd_table_fault : FuncData} (c_table_fault : Cal P w K mg base 5 "table_fault" ["schema", "state", "table"] (spTableFault) g_table_fault gd_table_fault) :
    Cal P w K mg base 6 "first_fault" ["schema", "state"] (spFault) f fd := k.cal (by
  refine k.F.ok sc_first_fault (fun vs H Q E h => ?_) (fun cdv A outer s H vs Q E hr h => ?_)
  · obtain ⟨S, s, T, st, rfl, _⟩ := h; rfl
  · obtain ⟨S, s, T, st, rfl, B, q⟩ := h
    have hu := hu_of hr
    refine ⟨_, (pss_cons (ps_for PassesOwn.never rfl (pi_list (pe_callB (call_sortedK rfl) (by rfl) z.sorted (by decide +kernel) (pa_cons (pv 0) pa_nil))) (pg_name (i := 2) sc_first_fault.nd rfl (Or.inl rfl))
        (pss_cons (ps_set (i := 3) sc_first_fault.nd rfl (Or.inl rfl) (pe_call c_table_fault.G (hr.mono (by decide)) (by rfl) c_table_fault.m c_table_fault.kp c_table_fault.b .nil pass0 (pa_cons (pv 0) (pa_cons (pv 1) (pa_cons (pv 2) pa_nil)))))
        (pss_one (ps_if (pt_cmpR op_notN (pv 3) pe_non (nomark _)) (pss_one (ps_ret (pv 3))) pss_nil))))
        (pss_one (ps_ret pe_non))), ?_⟩
    refine ⟨_, rfl, S, schK s, rfl, .inl B.sk, .inr ⟨schN s, sch_keys s⟩, fun ys P hper hsrt hP => ?_⟩
    rw [sch_keys] at hper
    have ey' : ys = sortK ((schN s).map Sum.inr) := sortK_eq hper hsrt
    have e1 := same_new hP (.lst (ys.map kV))
    refine ⟨P, rfl, ⟨_, SqL.of upd_same⟩, for_it walk_list (fun i σ H' => ∃ v2 v3, σ = [some (.ref S), some (.ref T), v2, v3] ∧ Same (upd H P (.lst (ys.map kV))) H' ∧ (ys.take i).findSome? (faultK s st) = none) ⟨none, none, rfl, Same.refl _, rfl⟩ (fun i σ H' _ ⟨_, _, _, e, _⟩ => SqL.of (e _ _ upd_same)) ?_ ?_⟩
    · rintro i x σ H1 H1' hi ⟨v2, v3, rfl, s1, no⟩ ⟨rfl, ex⟩
      rw [List.length_map] at hi
      have ey : ys[i]? = some ys[i] := List.getElem?_eq_getElem hi
      rw [List.getElem?_map, ey] at ex
      cases ex
      have hmy := List.getElem_mem hi
      generalize ys[i] = y at ey hmy
      have hmem := hper.mem_iff.mp hmy
      obtain ⟨n, hn, rfl⟩ := List.mem_map.mp hmem
      obtain ⟨p, hp, rfl⟩ := sch_in hn
      refine ⟨_, rfl, _, rfl, _, rfl, S, s, T, st, p, rfl, B.mono (e1.trans s1), hp, fun v H2 hv s2 => ?_⟩
      refine ⟨_, rfl, rfl, _, rfl, ?_⟩
      cases ef : faultN s st p.2.n with
      | none =>
        rw [ef] at hv
        have hv : v = .non := hv
        subst hv
        exact iteNS rfl ⟨_, _, rfl, s1.trans s2, findSome_step ey no ef⟩
      | some f =>
        rw [ef] at hv
        have hit := findSome_hit ey no (show faultK s st (Sum.inr p.2.n) = some f from ef)
        have em : faultM s st = some f := by unfold faultM; rw [← ey']; exact hit
        rw [em] at q
        refine iteNF (fun z => ?_) ⟨_, rfl, q v H2 hv (e1.trans (s1.trans s2))⟩
        obtain ⟨c, n', k⟩ := f
        obtain ⟨pp, e, _⟩ := hv
        rw [e] at z
        cases z
    · rintro σ H1 ⟨v2, v3, rfl, s1, no⟩
      rw [List.length_map, List.take_length] at no
      have em : faultM s st = none := by unfold faultM; rw [← ey']; exact no
      rw [em] at q
      exact q .non H1 rfl (e1.trans s1))
theorem ok_law_is_integer {f : Addr} {fd : FuncData} (k : Kn K mg "_law_is_integer" s_law_is_integer ["actual"] f fd) (z : Z mg) :
    Cal P w K mg base 1 "_law_is_integer" ["actual"] (spIsInt) f fd := k.cal (by
  refine k.F.ok sc_law_is_integer (fun vs H Q E h => ?_) (fun cdv A outer s H vs Q E hr h => ?_)
  · obtain ⟨x, rfl, _⟩ := h; rfl
  · obtain ⟨x, rfl, hx, q⟩ := h
    refine ⟨_, (pss_one (ps_ret (pe_and (pe_callB call_isi (by rfl) z.isinstance (by decide +kernel) (pa_cons (pv 0) (pa_cons (pe_bltn (v := .ty "int") (u := .type "int") (by rfl) z.int (by decide +kernel) rfl) pa_nil))) (pe_one (pe_not (pe_callB call_isi (by rfl) z.isinstance (by decide +kernel) (pa_cons (pv 0) (pa_cons (pe_bltn (v := .ty "bool") (u := .type "bool") (by rfl) z.bool (by decide +kernel) rfl) pa_nil)))))))), ?_⟩
    obtain ⟨t, hT, c⟩ := ty_scal (K := K) (H := H) hx
    rcases c with ⟨rfl, rfl⟩ | ⟨⟨b, rfl⟩, rfl⟩ | ⟨⟨i, rfl⟩, rfl⟩ | ⟨⟨y, rfl⟩, rfl⟩
    · exact ⟨_, rfl, _, _, _, _, false, rfl, .ty _, hT, kit_ty (by decide +kernel), ⟨_, rfl, q⟩⟩
    · exact ⟨_, rfl, _, _, _, _, true, rfl, .ty _, hT, kit_ty (by decide +kernel), ⟨_, rfl, ⟨_, rfl, _, _, _, _, true, rfl, .ty _, hT, kit_ty (by decide +kernel), ⟨_, rfl, q⟩⟩⟩⟩
    · exact ⟨_, rfl, _, _, _, _, true, rfl, .ty _, hT, kit_ty (by decide +kernel), ⟨_, rfl, ⟨_, rfl, _, _, _, _, false, rfl, .ty _, hT, kit_ty (by decide +kernel), ⟨_, rfl, q⟩⟩⟩⟩
    · exact ⟨_, rfl, _, _, _, _, false, rfl, .ty _, hT, kit_ty (by decide +kernel), ⟨_, rfl, q⟩⟩)

theorem no_same {f : Addr} {fd : FuncData} : FnOk P w K mg base CX0 0 f fd ["actual", "expected"] (spSameG 0) := by
  have no : ∀ vs H Q E, ¬ spSameG 0 vs H Q E := fun vs H Q E h => by
    obtain ⟨x, y, g, D, E', _, _, _, _, h1, _⟩ := h
    exact Nat.not_lt_zero _ h1
  exact ⟨fun vs H Q E h => absurd h (no vs H Q E), fun A outer s H args us vs Q E _ _ _ _ h => absurd h (no vs H Q E)⟩
theorem ok_items {n : Nat} {f g : Addr} {fd gd : FuncData} (k : Kn K mg "_law_same_items" s_law_same_items ["actual", "expected"] f fd) (z : Z mg)
    (c_law_same : Cal P w K mg base (2 * n) "_law_same" ["actual", "expected"] (spSameG n) g gd) : Cal P w K mg base (2 * n + 1) "_law_same_items" ["actual", "expected"] (spItemsG n) f fd := k.cal (by
  refine k.F.ok sc_law_same_items (fun vs H Q E h => ?_) (fun cdv A outer s H vs Q E hr h => ?_)
  · obtain ⟨a, b, xs, ys, gs, D, E', rfl, _⟩ := h; rfl
  · obtain ⟨a, b, xs, ys, gs, D, E', rfl, hk, h1, rx, ry, hdis, hdep, q⟩ := h
    have A1 : SqL K H a xs ∨ SqT K H a xs := by rcases hk with hk | hk; exact .inl (SqL.of hk.1); exact .inr (SqT.of hk.1)
    have B1 : SqL K H b ys ∨ SqT K H b ys := by rcases hk with hk | hk; exact .inl (SqL.of hk.2); exact .inr (SqT.of hk.2)
    have hl : xs.length = ys.length := by rw [rx.length, ry.length]
    refine ⟨_, (pss_cons (ps_if (pt_cmpR op_ne (pe_callB call_len_seq (by rfl) z.len (by decide +kernel) (pa_cons (pv 0) pa_nil)) (pe_callB call_len_seq (by rfl) z.len (by decide +kernel) (pa_cons (pv 1) pa_nil)) (nomark _)) (pss_one (ps_ret pe_bl)) pss_nil)
    (pss_cons (ps_for PassesOwn.never rfl (pi_range1 (by rfl) z.range (pa_cons (pe_callB call_len_seq (by rfl) z.len (by decide +kernel) (pa_cons (pv 1) pa_nil)) pa_nil)) (pg_name (i := 2) sc_law_same_items.nd rfl (Or.inl rfl))
    (pss_one (ps_if (pt_not (pt_val (pe_call c_law_same.G (hr.mono (by omega)) (by rfl) c_law_same.m c_law_same.kp c_law_same.b .nil pass0 (pa_cons (pe_ix ix_seq (pv 0) (pv 2) (fun _ _ => rfl)) (pa_cons (pe_ix ix_seq (pv 1) (pv 2) (fun _ _ => rfl)) pa_nil))))) (pss_one (ps_ret pe_bl)) pss_nil)))
    (pss_one (ps_ret pe_bl)))), ?_⟩
    refine ⟨_, rfl, a, _, rfl, A1, _, rfl, b, _, rfl, B1, rfl, _, rfl, ?_⟩
    refine iteNS (by rw [hl]) ?_
    refine ⟨_, rfl, b, _, rfl, B1, _, rfl, (by omega), (by omega), for_range (lo := 0) (n := ys.length) (fun i σ H2 => (∃ v, σ = [some (.ref a), some (.ref b), v]) ∧ H2 = H) ⟨⟨none, rfl⟩, rfl⟩ ?_ ?_⟩
    · rintro i σ H2 hi ⟨⟨v, rfl⟩, rfl⟩
      have hx : xs[i]? = some xs[i] := List.getElem?_eq_getElem (by omega)
      have hy : ys[i]? = some ys[i] := List.getElem?_eq_getElem hi
      obtain ⟨g1, E1, e1, p1, i1⟩ := rx.get hx
      obtain ⟨g2, E2, e2, p2, i2⟩ := ry.get hy
      rw [e1] at e2
      cases e2
      refine ⟨_, rfl, _, rfl, ixq A1 (at_of (by omega) hx) ⟨_, rfl, _, rfl, ixq B1 (at_of (by omega) hy) ⟨_, _, g1, E1, E2, rfl, p1, p2, fun a ha hb => hdis a (i1 a ha) (i2 a hb), hdep g1 (List.mem_of_getElem? e1), ⟨_, rfl, ?_⟩⟩⟩⟩
      exact iteF ⟨⟨_, rfl⟩, rfl⟩
    · rintro σ H2 ⟨⟨v, rfl⟩, rfl⟩
      exact q)
theorem ok_same {n : Nat} {f g i : Addr} {fd gd ii : FuncData} (k : Kn K mg "_law_same" s_law_same ["actual", "expected"] f fd) (z : Z mg)
    (c_law_same : Cal P w K mg base (2 * n) "_law_same" ["actual", "expected"] (spSameG n) f fd)
    (c_law_is_integer : Cal P w K mg base 1 "_law_is_integer" ["actual"] spIsInt i ii)
    (c_law_same_items : Cal P w K mg base (2 * n + 1) "_law_same_items" ["actual", "expected"] (spItemsG n) g gd) : Cal P w K mg base (2 * n + 2) "_law_same" ["actual", "expected"] (spSameG (n + 1)) f fd := k.cal (by
  refine k.F.ok sc_law_same (fun vs H Q E h => ?_) (fun cdv A outer s H vs Q E hr h => ?_)
  · obtain ⟨x, y, g, D, E', rfl, _⟩ := h; rfl
  · obtain ⟨x, y, g, D, E', rfl, hx, hy, hdis, hdep, q⟩ := h
    have hu := hu_of hr
    refine ⟨_, (pss_cons (ps_if (pt_cmpR op_isN (pv 1) pe_non (nomark _)) (pss_one (ps_ret (pe_cmpR op_isN (pv 0) pe_non (nomark _)))) pss_nil)
    (pss_cons (ps_if (pt_val (pe_callB call_isi (by rfl) z.isinstance (by decide +kernel) (pa_cons (pv 1) (pa_cons (pe_bltn (v := .ty "bool") (u := .type "bool") (by rfl) z.bool (by decide +kernel) rfl) pa_nil)))) (pss_one (ps_ret (pe_and (pe_callB call_isi (by rfl) z.isinstance (by decide +kernel) (pa_cons (pv 0) (pa_cons (pe_bltn (v := .ty "bool") (u := .type "bool") (by rfl) z.bool (by decide +kernel) rfl) pa_nil))) (pe_one (pe_cmpR op_eq (pv 0) (pv 1) (nomark _)))))) pss_nil)
    (pss_cons (ps_if (pt_val (pe_callB call_isi (by rfl) z.isinstance (by decide +kernel) (pa_cons (pv 1) (pa_cons (pe_bltn (v := .ty "int") (u := .type "int") (by rfl) z.int (by decide +kernel) rfl) pa_nil)))) (pss_one (ps_ret (pe_and (pe_call c_law_is_integer.G (hr.mono (by omega)) (by rfl) c_law_is_integer.m c_law_is_integer.kp c_law_is_integer.b .nil pass0 (pa_cons (pv 0) pa_nil)) (pe_one (pe_cmpR op_eq (pv 0) (pv 1) (nomark _)))))) pss_nil)
    (pss_cons (ps_if (pt_val (pe_callB call_isi (by rfl) z.isinstance (by decide +kernel) (pa_cons (pv 1) (pa_cons (pe_bltn (v := .ty "str") (u := .type "str") (by rfl) z.str (by decide +kernel) rfl) pa_nil)))) (pss_one (ps_ret (pe_and (pe_callB call_isi (by rfl) z.isinstance (by decide +kernel) (pa_cons (pv 0) (pa_cons (pe_bltn (v := .ty "str") (u := .type "str") (by rfl) z.str (by decide +kernel) rfl) pa_nil))) (pe_one (pe_cmpR op_eq (pv 0) (pv 1) (nomark _)))))) pss_nil)
    (pss_cons (ps_if (pt_val (pe_callB call_isi (by rfl) z.isinstance (by decide +kernel) (pa_cons (pv 1) (pa_cons (pe_bltn (v := .ty "tuple") (u := .type "tuple") (by rfl) z.tuple (by decide +kernel) rfl) pa_nil)))) (pss_one (ps_ret (pe_and (pe_callB call_isi (by rfl) z.isinstance (by decide +kernel) (pa_cons (pv 0) (pa_cons (pe_bltn (v := .ty "tuple") (u := .type "tuple") (by rfl) z.tuple (by decide +kernel) rfl) pa_nil))) (pe_one (pe_call c_law_same_items.G (hr.mono (by omega)) (by rfl) c_law_same_items.m c_law_same_items.kp c_law_same_items.b .nil pass0 (pa_cons (pv 0) (pa_cons (pv 1) pa_nil))))))) pss_nil)
    (pss_cons (ps_if (pt_val (pe_callB call_isi (by rfl) z.isinstance (by decide +kernel) (pa_cons (pv 1) (pa_cons (pe_bltn (v := .ty "list") (u := .type "list") (by rfl) z.list (by decide +kernel) rfl) pa_nil)))) (pss_one (ps_ret (pe_and (pe_callB call_isi (by rfl) z.isinstance (by decide +kernel) (pa_cons (pv 0) (pa_cons (pe_bltn (v := .ty "list") (u := .type "list") (by rfl) z.list (by decide +kernel) rfl) pa_nil))) (pe_one (pe_call c_law_same_items.G (hr.mono (by omega)) (by rfl) c_law_same_items.m c_law_same_items.kp c_law_same_items.b .nil pass0 (pa_cons (pv 0) (pa_cons (pv 1) pa_nil))))))) pss_nil)
    (pss_cons (ps_if (PW.pt (pw_or (pt_not (pt_val (pe_callB call_isi (by rfl) z.isinstance (by decide +kernel) (pa_cons (pv 0) (pa_cons (pe_bltn (v := .ty "dict") (u := .type "dict") (by rfl) z.dict (by decide +kernel) rfl) pa_nil))))) (pw_or1 (pt_cmpR op_ne (pe_callB call_lenD (by rfl) z.len (by decide +kernel) (pa_cons (pv 0) pa_nil)) (pe_callB call_lenD (by rfl) z.len (by decide +kernel) (pa_cons (pv 1) pa_nil)) (nomark _))))) (pss_one (ps_ret pe_bl)) pss_nil)
    (pss_cons (ps_lock (ps_for PassesOwn.never rfl (pi_keys (pv 1)) (pg_name (i := 2) sc_law_same.nd rfl (Or.inl rfl))
    (pss_one (ps_if (PW.pt (pw_or (pt_cmp (pc_dnotin hu (pv 2) (pv 0))) (pw_or1 (pt_not (pt_val (pe_call c_law_same.G (hr.mono (by omega)) (by rfl) c_law_same.m c_law_same.kp c_law_same.b .nil pass0 (pa_cons (pe_dget hu (pv 0) (pv 2) (fun _ _ => rfl)) (pa_cons (pe_dget hu (pv 1) (pv 2) (fun _ _ => rfl)) pa_nil)))))))) (pss_one (ps_ret pe_bl)) pss_nil))))
    (pss_cons (ps_lock (ps_for PassesOwn.never rfl (pi_keys (pv 0)) (pg_name (i := 2) sc_law_same.nd rfl (Or.inl rfl))
    (pss_one (ps_if (pt_val (pe_callB call_isi (by rfl) z.isinstance (by decide +kernel) (pa_cons (pv 2) (pa_cons (pe_bltn (v := .ty "bool") (u := .type "bool") (by rfl) z.bool (by decide +kernel) rfl) pa_nil)))) (pss_one (ps_ret pe_bl)) pss_nil))))
    (pss_one (ps_ret pe_bl))))))))))), ?_⟩
    cases hx with
    | @s v hs =>
      cases hy with
      | s _ =>
      obtain ⟨t, hT, c⟩ := ty_scal (K := K) (H := H) hs
      rcases c with ⟨rfl, rfl⟩ | ⟨⟨b, rfl⟩, rfl⟩ | ⟨⟨i, rfl⟩, rfl⟩ | ⟨⟨y, rfl⟩, rfl⟩
      · exact ⟨_, rfl, rfl, _, rfl, iteDT rfl ⟨_, rfl, rfl, bl_T rfl q⟩⟩
      · refine ⟨_, rfl, rfl, _, rfl, iteDF (fun e => nomatch e) ⟨_, rfl, _, _, _, _, true, rfl, .ty _, hT, kit_ty (by decide +kernel), ⟨_, rfl, ?_⟩⟩⟩
        exact ⟨_, rfl, _, _, _, _, true, rfl, .ty _, hT, kit_ty (by decide +kernel), ⟨_, rfl, ⟨_, rfl, _, rfl, rfl, bl_T rfl q⟩⟩⟩
      · refine ⟨_, rfl, rfl, _, rfl, iteDF (fun e => nomatch e) ⟨_, rfl, _, _, _, _, false, rfl, .ty _, hT, kit_ty (by decide +kernel), ⟨_, rfl, ?_⟩⟩⟩
        refine ⟨_, rfl, _, _, _, _, true, rfl, .ty _, hT, kit_ty (by decide +kernel), ⟨_, rfl, ?_⟩⟩
        exact ⟨_, rfl, _, rfl, rfl, ⟨_, rfl, ⟨_, rfl, _, rfl, rfl, bl_T rfl q⟩⟩⟩
      · refine ⟨_, rfl, rfl, _, rfl, iteDF (fun e => nomatch e) ⟨_, rfl, _, _, _, _, false, rfl, .ty _, hT, kit_ty (by decide +kernel), ⟨_, rfl, ?_⟩⟩⟩
        refine ⟨_, rfl, _, _, _, _, false, rfl, .ty _, hT, kit_ty (by decide +kernel), ⟨_, rfl, ?_⟩⟩
        refine ⟨_, rfl, _, _, _, _, true, rfl, .ty _, hT, kit_ty (by decide +kernel), ⟨_, rfl, ?_⟩⟩
        exact ⟨_, rfl, _, _, _, _, true, rfl, .ty _, hT, kit_ty (by decide +kernel), ⟨_, rfl, ⟨_, rfl, _, rfl, rfl, bl_T rfl q⟩⟩⟩
    | @l a xs gs D hxa hn rx =>
      cases hy with
      | @l b ys _ E hyb hm ry =>
      have hA : TyX K H (.ref a) (.type "list") := .base (.lst hxa)
      have hB : TyX K H (.ref b) (.type "list") := .base (.lst hyb)
      have hd : ∀ g ∈ gs, g.dep < n := fun g hg => by have := depL_mem hg; simp only [G.dep] at hdep; omega
      refine ⟨_, rfl, rfl, _, rfl, iteDF (fun e => nomatch e) ⟨_, rfl, _, _, _, _, false, rfl, .ty _, hB, kit_ty (by decide +kernel), ⟨_, rfl, ?_⟩⟩⟩
      refine ⟨_, rfl, _, _, _, _, false, rfl, .ty _, hB, kit_ty (by decide +kernel), ⟨_, rfl, ?_⟩⟩
      refine ⟨_, rfl, _, _, _, _, false, rfl, .ty _, hB, kit_ty (by decide +kernel), ⟨_, rfl, ?_⟩⟩
      refine ⟨_, rfl, _, _, _, _, false, rfl, .ty _, hB, kit_ty (by decide +kernel), ⟨_, rfl, ?_⟩⟩
      refine ⟨_, rfl, _, _, _, _, true, rfl, .ty _, hB, kit_ty (by decide +kernel), ⟨_, rfl, ?_⟩⟩
      exact ⟨_, rfl, _, _, _, _, true, rfl, .ty _, hA, kit_ty (by decide +kernel), ⟨_, rfl, ⟨_, rfl, _, rfl, a, b, xs, ys, gs, D, E, rfl, .inl ⟨hxa, hyb⟩, hn, rx, ry, fun c h1 h2 => hdis c (List.mem_cons_of_mem _ h1) (List.mem_cons_of_mem _ h2), hd, q⟩⟩⟩
    | @t a xs gs D hxa hn rx =>
      cases hy with
      | @t b ys _ E hyb hm ry =>
      have hA : TyX K H (.ref a) (.type "tuple") := .base (.tup hxa)
      have hB : TyX K H (.ref b) (.type "tuple") := .base (.tup hyb)
      have hd : ∀ g ∈ gs, g.dep < n := fun g hg => by have := depL_mem hg; simp only [G.dep] at hdep; omega
      refine ⟨_, rfl, rfl, _, rfl, iteDF (fun e => nomatch e) ⟨_, rfl, _, _, _, _, false, rfl, .ty _, hB, kit_ty (by decide +kernel), ⟨_, rfl, ?_⟩⟩⟩
      refine ⟨_, rfl, _, _, _, _, false, rfl, .ty _, hB, kit_ty (by decide +kernel), ⟨_, rfl, ?_⟩⟩
      refine ⟨_, rfl, _, _, _, _, false, rfl, .ty _, hB, kit_ty (by decide +kernel), ⟨_, rfl, ?_⟩⟩
      refine ⟨_, rfl, _, _, _, _, true, rfl, .ty _, hB, kit_ty (by decide +kernel), ⟨_, rfl, ?_⟩⟩
      exact ⟨_, rfl, _, _, _, _, true, rfl, .ty _, hA, kit_ty (by decide +kernel), ⟨_, rfl, ⟨_, rfl, _, rfl, a, b, xs, ys, gs, _, _, rfl, .inr ⟨hxa, hyb⟩, hn, rx, ry, hdis, hd, q⟩⟩⟩
    | @d a kvs kgs D hxa hn nd rx fx =>
      cases hy with
      | @d b kws _ E hyb hm nd2 ry fy =>
      have hA : TyX K H (.ref a) (.type "dict") := .base (.dK hxa)
      have hB : TyX K H (.ref b) (.type "dict") := .base (.dK hyb)
      have hd : ∀ (k : Key) (g : G), (k, g) ∈ kgs → g.dep < n := fun k g hg => by have := depK_mem hg; simp only [G.dep] at hdep; omega
      have hab : a ≠ b := fun e => by subst e; exact hdis a List.mem_cons_self List.mem_cons_self
      have hbD : b ∉ D := fun h => hdis b (List.mem_cons_of_mem _ h) List.mem_cons_self
      have hkeys : kvs.map (·.1) = kws.map (·.1) := by rw [rx.keys, ry.keys]
      have hlen : kvs.length = kws.length := by have := congrArg List.length hkeys; simpa using this
      refine ⟨_, rfl, rfl, _, rfl, iteDF (fun e => nomatch e) ⟨_, rfl, _, _, _, _, false, rfl, .ty _, hB, kit_ty (by decide +kernel), ⟨_, rfl, ?_⟩⟩⟩
      refine ⟨_, rfl, _, _, _, _, false, rfl, .ty _, hB, kit_ty (by decide +kernel), ⟨_, rfl, ?_⟩⟩
      refine ⟨_, rfl, _, _, _, _, false, rfl, .ty _, hB, kit_ty (by decide +kernel), ⟨_, rfl, ?_⟩⟩
      refine ⟨_, rfl, _, _, _, _, false, rfl, .ty _, hB, kit_ty (by decide +kernel), ⟨_, rfl, ?_⟩⟩
      refine ⟨_, rfl, _, _, _, _, false, rfl, .ty _, hB, kit_ty (by decide +kernel), ⟨_, rfl, ?_⟩⟩
      refine ⟨_, rfl, _, _, _, _, true, rfl, .ty _, hA, kit_ty (by decide +kernel), ⟨_, rfl, ?_⟩⟩
      refine ⟨_, rfl, a, kvs, rfl, hxa, _, rfl, b, kws, rfl, hyb, rfl, _, rfl, ?_⟩
      refine iteNS (by rw [hlen]) ?_
      refine ⟨b, .dK kws, hyb, True.intro, fun od => ?_⟩
      have hLa : (upd H b (.frz od (.dK kws))) a = some (.dK kvs) := by rw [upd_ne hab]; exact hxa
      refine ⟨_, rfl, b, od, rfl, .inl ⟨kws, upd_same, for_it walk_keys (fun i σ H2 => (∃ v, σ = [some (.ref a), some (.ref b), v]) ∧ H2 = upd H b (.frz od (.dK kws))) ⟨⟨none, rfl⟩, rfl⟩ (fun i σ H2 _ hh => by rw [hh.2]; exact upd_same) ?_ ?_⟩⟩
      · rintro i x σ H2 H2' hi ⟨⟨v, rfl⟩, rfl⟩ ⟨rfl, key, wv, ek, rfl⟩
        have eki : (kvs.map (·.1))[i]? = some key := by rw [hkeys, List.getElem?_map, ek]; rfl
        obtain ⟨vv, evv⟩ : ∃ vv, kvs[i]? = some (key, vv) := by
          rw [List.getElem?_map] at eki
          cases e : kvs[i]? with
          | none => rw [e] at eki; cases eki
          | some p => rw [e] at eki; obtain ⟨p1, p2⟩ := p; cases eki; exact ⟨p2, rfl⟩
        have ga : DGet (upd H b (.frz od (.dK kws))) a (kV key) (some vv) := by
          have g := DGet.k (k := key) hLa
          rw [valV_at nd evv] at g
          exact g
        have gb : DGet (upd H b (.frz od (.dK kws))) b (kV key) (some wv) := .inl ⟨kws, key, .inr ⟨od, upd_same⟩, rfl, (valV_at nd2 ek).symm⟩
        obtain ⟨g1, D1, e1, p1, i1⟩ := rx.get evv
        obtain ⟨g2, E1, e2, p2, i2⟩ := ry.get ek
        rw [e1] at e2
        cases e2
        refine ⟨_, rfl, _, rfl, a, _, rfl, ga, _, rfl, ?_⟩
        refine iteF ⟨_, rfl, _, rfl, a, vv, rfl, ga, _, rfl, _, rfl, b, wv, rfl, gb, vv, wv, g1, D1, E1, rfl, p1.locked hyb (fun h => hbD (i1 b h)), p2.locked hyb (fun h => fy (i2 b h)), fun c h1 h2 => hdis c (List.mem_cons_of_mem _ (i1 c h1)) (List.mem_cons_of_mem _ (i2 c h2)), hd _ _ (List.mem_of_getElem? e1), _, rfl, ?_⟩
        exact iteF ⟨⟨_, rfl⟩, rfl⟩
      · rintro σ H2 ⟨⟨v, rfl⟩, rfl⟩
        refine ⟨upd_same, ?_⟩
        rw [upd_upd, upd_self hyb]
        refine ⟨a, .dK kvs, hxa, True.intro, fun oe => ?_⟩
        refine ⟨_, rfl, a, oe, rfl, .inl ⟨kvs, upd_same, for_it walk_keys (fun i σ H2 => (∃ v, σ = [some (.ref a), some (.ref b), v]) ∧ H2 = upd H a (.frz oe (.dK kvs))) ⟨⟨v, rfl⟩, rfl⟩ (fun i σ H2 _ hh => by rw [hh.2]; exact upd_same) ?_ ?_⟩⟩
        · rintro i x σ H2 H2' hi ⟨⟨v, rfl⟩, rfl⟩ ⟨rfl, key, wv, ek, rfl⟩
          cases key with
          | inl i0 => exact ⟨_, rfl, _, _, _, _, false, rfl, .ty _, .base (.int _), kit_ty (by decide +kernel), _, rfl, ⟨_, rfl⟩, rfl⟩
          | inr s0 => exact ⟨_, rfl, _, _, _, _, false, rfl, .ty _, .base (.str _), kit_ty (by decide +kernel), _, rfl, ⟨_, rfl⟩, rfl⟩
        · rintro σ H2 ⟨⟨v, rfl⟩, rfl⟩
          refine ⟨upd_same, ?_⟩
          rw [upd_upd, upd_self hxa]
          exact q)
theorem ok_law_same {f g i : Addr} {fd gd ii : FuncData} (k : Kn K mg "_law_same" s_law_same ["actual", "expected"] f fd) (kI : Kn K mg "_law_same_items" s_law_same_items ["actual", "expected"] g gd) (z : Z mg)
    (c_law_is_integer : Cal P w K mg base 1 "_law_is_integer" ["actual"] spIsInt i ii) : ∀ n : Nat, Cal P w K mg base (2 * n) "_law_same" ["actual", "expected"] (spSameG n) f fd
  | 0 => k.cal no_same
  | n + 1 => by
    have h := ok_law_same k kI z c_law_is_integer n
    exact ok_same k z h c_law_is_integer (ok_items kI z h)
theorem ok_law_sorted_rows {f : Addr} {fd : FuncData} (k : Kn K mg "_law_sorted_rows" s_law_sorted_rows ["rows_v"] f fd) (z : Z mg) :
    Cal P w K mg base 1 "_law_sorted_rows" ["rows_v"] (spSortedRows) f fd := k.cal (by
  refine k.F.ok sc_law_sorted_rows (fun vs H Q E h => ?_) (fun cdv A outer s H vs Q E hr h => ?_)
  · obtain ⟨d, rs, rfl, _⟩ := h; rfl
  · obtain ⟨d, rs, rfl, A, hone, hw, hl, q⟩ := h
    have hu := hu_of hr
    refine ⟨_, (pss_one (ps_ret (pe_lc (own := [("key", 1)]) (g := gName 1) (tt := tYes) (by rfl) sc_law_sorted_rows.nd (pi_list (pe_callB (call_sortedK rfl) (by rfl) z.sorted (by decide +kernel) (pa_cons (pv 0) pa_nil))) (blkOk_by (own := [("key", 1)]) (N := ["rows_v", "key"]) (sc := defScope s_law_sorted_rows) (by decide +kernel)) (fun _ _ _ _ _ => pg_name (i := 1) sc_law_sorted_rows.nd rfl (Or.inl rfl)) (fun _ _ _ _ _ => pts_nil) (fun _ _ _ _ _ => (pe_op (r := rCatA K) op_catA (pe_tup (pa_cons (pv 1) pa_nil)) (pe_dget hu (pv 0) (pv 1) (fun _ _ => rfl))))))), ?_⟩
    refine ⟨_, rfl, d, roK rs, rfl, .inl A.dk, by rw [roK_keys]; exact hone, fun ys P hper hsrt hP => ?_⟩
    rw [roK_keys] at hper
    have ey' : ys = sortK (roN rs) := sortK_eq hper hsrt
    have e1 := same_new hP (.lst (ys.map kV))
    have l200 := hl
    have hys : ys.length = rs.length := by rw [hper.length_eq]; unfold roN; rw [List.length_map]
    refine ⟨P, rfl, ⟨_, SqL.of upd_same⟩, fun L hL => inner walk_list (fun i H' => ∃ as : List Addr, H' L = some (.lst (as.map V.ref)) ∧ as.length = i ∧ (∀ (j : Nat) (a : Addr) (r : List V), as[j]? = some a → (rowsM rs)[j]? = some r → H' a = some (.tup r)) ∧ Same (upd H P (.lst (ys.map kV))) H') ⟨[], upd_same, rfl, (by intro j a r h; simp at h), same_new hL _⟩ (fun i H' _ ⟨_, _, _, _, s⟩ => SqL.of (s _ _ upd_same)) ?_ ?_⟩
    · rintro i x H1 H1' hi ⟨as, hL1, la, ha, s1⟩ ⟨rfl, ex⟩
      rw [List.length_map] at hi
      have ey : ys[i]? = some ys[i] := List.getElem?_eq_getElem hi
      rw [List.getElem?_map, ey] at ex
      cases ex
      obtain ⟨r, hr', er⟩ := ro_mem (hper.mem_iff.mp (List.getElem_mem hi))
      have S1 : Same H H1' := e1.trans s1
      have A1 := A.mono (KeepT.of S1) (fun o => S1 _ _)
      refine ⟨rfl, _, rfl, (by show 1 ≤ sizeLine; decide), fun p hp => ?_⟩
      have e2 := same_new hp (.tup [kV ys[i]])
      refine ⟨_, rfl, _, rfl, d, _, rfl, (by have g := (A1.mono (KeepT.of e2) (fun o => e2 _ _)).get hr'; rw [er] at g; exact g), ?_⟩
      refine cat_any upd_same ((A1.mono (KeepT.of e2) (fun o => e2 _ _)).rt r hr') (by have := hw r hr'; show 1 + r.vs.length ≤ 1000; omega) fun p2 H2 h2 s2 => ?_
      have S2 := e2.trans s2
      refine ⟨_, S2 _ _ hL1, (by rw [List.length_map]; exact small1000 (by omega)), as ++ [p2], by rw [upd_same, List.map_append]; rfl, by rw [List.length_append, List.length_singleton, la], fun j a rr haj hrj => ?_, same_upd hL _ (s1.trans S2)⟩
      have up : ∀ {b : Addr} {zs : List V}, H2 b = some (.tup zs) → (upd H2 L (.lst (as.map V.ref ++ [V.ref p2]))) b = some (.tup zs) := fun {b zs} hb => by
        have : b ≠ L := fun z => by rw [z, S2 _ _ hL1] at hb; cases hb
        rw [upd_ne this]; exact hb
      by_cases hj : j < as.length
      · rw [List.getElem?_append_left hj] at haj
        exact up (S2 _ _ (ha j a rr haj hrj))
      · have hj2 : j = as.length := by
          have := (List.getElem?_eq_some_iff.mp haj).1
          rw [List.length_append, List.length_singleton] at this
          omega
        subst hj2
        rw [List.getElem?_append_right (Nat.le_refl _), Nat.sub_self] at haj
        cases haj
        have e3 : (rowsM rs)[as.length]? = some (kV ys[i] :: r.vs) := by
          unfold rowsM
          rw [← ey', la, List.getElem?_map, ey]
          show some (kV ys[i] :: restAt rs ys[i]) = _
          rw [← er, restAt_eq A.nd hr']
        rw [e3] at hrj
        cases hrj
        exact up h2
    · rintro H1 ⟨as, hL1, la, ha, s1⟩
      rw [List.length_map] at la
      have fL : H L = none := e1.free hL
      exact q L H1 ⟨as, hL1, by rw [la, rowsM_len, hper.length_eq]; unfold roN; rw [List.length_map], ha⟩ (e1.trans s1) fL)
theorem ok_law_compares {f : Addr} {fd : FuncData} (k : Kn K mg "_law_compares" s_law_compares ["value", "operator", "operand"] f fd) (z : Z mg) :
    Cal P w K mg base 1 "_law_compares" ["value", "operator", "operand"] (spCompares) f fd := k.cal (by
  refine k.F.ok sc_law_compares (fun vs H Q E h => ?_) (fun cdv A outer s H vs Q E hr h => ?_)
  · obtain ⟨v, op, w, rfl, _⟩ := h; rfl
  · obtain ⟨v, op, y, rfl, ha, q⟩ := h
    refine ⟨_, (pss_cons (ps_if (pt_cmpR op_eq (pv 1) pe_str (nomark _)) (pss_one (ps_ret (pe_cmpR op_eq (pv 0) (pv 2) (nomark _)))) pss_nil)
        (pss_cons (ps_if (pt_cmpR op_eq (pv 1) pe_str (nomark _)) (pss_one (ps_ret (pe_cmpR op_ne (pv 0) (pv 2) (nomark _)))) pss_nil)
        (pss_cons (ps_if (pt_cmpR op_eq (pv 1) pe_str (nomark _)) (pss_one (ps_ret (pe_cmpR (op_either op_lt op_lt_str) (pv 0) (pv 2) (nomark _)))) pss_nil)
        (pss_cons (ps_if (pt_cmpR op_eq (pv 1) pe_str (nomark _)) (pss_one (ps_ret (pe_or (pe_cmpR (op_either op_lt op_lt_str) (pv 0) (pv 2) (nomark _)) (pe_one (pe_cmpR op_eq (pv 0) (pv 2) (nomark _)))))) pss_nil)
        (pss_cons (ps_if (pt_cmpR op_eq (pv 1) pe_str (nomark _)) (pss_one (ps_ret (pe_cmpR (op_either op_lt op_lt_str) (pv 2) (pv 0) (nomark _)))) pss_nil)
        (pss_one (ps_ret (pe_or (pe_cmpR (op_either op_lt op_lt_str) (pv 2) (pv 0) (nomark _)) (pe_one (pe_cmpR op_eq (pv 0) (pv 2) (nomark _))))))))))), ?_⟩
    unfold cmpM at q
    have hb : Alike y v := by rcases ha with ⟨a, b, e1, e2⟩ | ⟨a, b, e1, e2⟩; exact .inl ⟨b, a, e2, e1⟩; exact .inr ⟨b, a, e2, e1⟩
    refine ⟨_, rfl, rfl, _, rfl, ?_⟩
    refine ifD (fun h1 => ?_) (fun h1 => ?_)
    · rw [if_pos (V.str.inj h1)] at q
      exact ⟨_, rfl, _, rfl, alike_scal ha, q⟩
    rw [if_neg (fun z => h1 (congrArg V.str z))] at q
    refine ⟨_, rfl, rfl, _, rfl, ?_⟩
    refine ifD (fun h2 => ?_) (fun h2 => ?_)
    · rw [if_pos (V.str.inj h2)] at q
      exact ⟨_, rfl, _, rfl, alike_scal ha, q⟩
    rw [if_neg (fun z => h2 (congrArg V.str z))] at q
    refine ⟨_, rfl, rfl, _, rfl, ?_⟩
    refine ifD (fun h3 => ?_) (fun h3 => ?_)
    · rw [if_pos (V.str.inj h3)] at q
      rcases ha with ⟨a, b, rfl, rfl⟩ | ⟨a, b, rfl, rfl⟩
      · exact ⟨_, rfl, _, rfl, .inl ⟨a, b, rfl, rfl, q⟩⟩
      · exact ⟨_, rfl, _, rfl, .inr ⟨a, b, rfl, rfl, q⟩⟩
    rw [if_neg (fun z => h3 (congrArg V.str z))] at q
    refine ⟨_, rfl, rfl, _, rfl, ?_⟩
    refine ifD (fun h4 => ?_) (fun h4 => ?_)
    · rw [if_pos (V.str.inj h4), le_V ha] at q
      rcases ha with ⟨a, b, rfl, rfl⟩ | ⟨a, b, rfl, rfl⟩
      · refine ⟨_, rfl, _, rfl, .inl ⟨a, b, rfl, rfl, _, rfl, ?_⟩⟩
        refine ifD (fun z => ?_) (fun z => ?_)
        · rw [show ltV (V.int a) (V.int b) = true from decide_eq_true z] at q
          exact q
        · rw [show ltV (V.int a) (V.int b) = false from decide_eq_false z] at q
          exact ⟨_, rfl, _, rfl, rfl, q⟩
      · refine ⟨_, rfl, _, rfl, .inr ⟨a, b, rfl, rfl, _, rfl, ?_⟩⟩
        refine ifD (fun z => ?_) (fun z => ?_)
        · rw [show ltV (V.str a) (V.str b) = true from decide_eq_true z] at q
          exact q
        · rw [show ltV (V.str a) (V.str b) = false from decide_eq_false z] at q
          exact ⟨_, rfl, _, rfl, rfl, q⟩
    rw [if_neg (fun z => h4 (congrArg V.str z))] at q
    refine ⟨_, rfl, rfl, _, rfl, ?_⟩
    refine ifD (fun h5 => ?_) (fun h5 => ?_)
    · rw [if_pos (V.str.inj h5)] at q
      rcases ha with ⟨a, b, rfl, rfl⟩ | ⟨a, b, rfl, rfl⟩
      · exact ⟨_, rfl, _, rfl, .inl ⟨b, a, rfl, rfl, q⟩⟩
      · exact ⟨_, rfl, _, rfl, .inr ⟨b, a, rfl, rfl, q⟩⟩
    · rw [if_neg (fun z => h5 (congrArg V.str z)), le_V hb] at q
      have ee : decide (y = v) = decide (v = y) := by by_cases h : v = y; subst h; rfl; rw [decide_eq_false h, decide_eq_false (fun z => h z.symm)]
      rw [ee] at q
      rcases ha with ⟨a, b, rfl, rfl⟩ | ⟨a, b, rfl, rfl⟩
      · refine ⟨_, rfl, _, rfl, .inl ⟨b, a, rfl, rfl, _, rfl, ?_⟩⟩
        refine ifD (fun z => ?_) (fun z => ?_)
        · rw [show ltV (V.int b) (V.int a) = true from decide_eq_true z] at q
          exact q
        · rw [show ltV (V.int b) (V.int a) = false from decide_eq_false z] at q
          exact ⟨_, rfl, _, rfl, rfl, q⟩
      · refine ⟨_, rfl, _, rfl, .inr ⟨b, a, rfl, rfl, _, rfl, ?_⟩⟩
        refine ifD (fun z => ?_) (fun z => ?_)
        · rw [show ltV (V.str b) (V.str a) = true from decide_eq_true z] at q
          exact q
        · rw [show ltV (V.str b) (V.str a) = false from decide_eq_false z] at q
          exact ⟨_, rfl, _, rfl, rfl, q⟩)
theorem ok_law_clause_holds {f : Addr} {fd : FuncData} (k : Kn K mg "_law_clause_holds" s_law_clause_holds ["clause", "names", "row"] f fd) (z : Z mg)
    {g_law_compares : Addr} {gd_law_compares : FuncData} (c_law_compares : Cal P w K mg base 1 "_law_compares" ["value", "operator", "operand"] (spCompares) g_law_compares gd_law_compares) :
    Cal P w K mg base 2 "_law_clause_holds" ["clause", "names", "row"] (spClauseH K) f fd := k.cal (by
  refine k.F.ok sc_law_clause_holds (fun vs H Q E h => ?_) (fun cdv A outer s H vs Q E hr h => ?_)
  · obtain ⟨a, n, r, cl, names, row, rfl, _⟩ := h; rfl
  · obtain ⟨a, n, r, cl, names, row, rfl, hA, hN, hR, hl, hs, hf, q⟩ := h
    refine ⟨_, (pss_cons (ps_set (i := 3) sc_law_clause_holds.nd rfl (Or.inl rfl) (pe_ix ix_tup (pv 2) (pe_bm PySem.F.plainAttrs_list PySem.F.slot_list_index PySem.F.type_list_index mt_index (pv 1) (pa_cons (pe_ix ix_tup (pv 0) pe_int (fun _ _ => rfl)) pa_nil)) (fun _ _ => rfl)))
        (pss_cons (ps_if (PW.pt (pw_or (pt_cmpR op_eq (pe_ix ix_tup (pv 0) pe_int (fun _ _ => rfl)) pe_str (nomark _)) (pw_or1 (pt_cmpR op_eq (pe_ix ix_tup (pv 0) pe_int (fun _ _ => rfl)) pe_str (nomark _))))) (pss_one (ps_ret (pe_cmpR op_eq (pe_cmpR op_isN (pv 3) pe_non (nomark _)) (pe_cmpR op_eq (pe_ix ix_tup (pv 0) pe_int (fun _ _ => rfl)) pe_str (nomark _)) (nomark _)))) pss_nil)
        (pss_one (ps_ret (pe_and (pe_cmpR op_notN (pv 3) pe_non (nomark _)) (pe_one (pe_call c_law_compares.G (hr.mono (by decide)) (by rfl) c_law_compares.m c_law_compares.kp c_law_compares.b .nil pass0 (pa_cons (pv 3) (pa_cons (pe_ix ix_tup (pv 0) pe_int (fun _ _ => rfl)) (pa_cons (pe_ix ix_tup (pv 0) pe_int (fun _ _ => rfl)) pa_nil)))))))))), ?_⟩
    obtain ⟨z1, z2, z3, z4, z5⟩ := ix_names hf.1
    have i0 : atI [V.str cl.n, V.str cl.op, cl.v] 0 = some (V.str cl.n) := atI_nat (j := 0) rfl
    have i1 : atI [V.str cl.n, V.str cl.op, cl.v] 1 = some (V.str cl.op) := atI_nat (j := 1) rfl
    have i2 : atI [V.str cl.n, V.str cl.op, cl.v] 2 = some cl.v := atI_nat (j := 2) rfl
    refine ⟨_, rfl, _, rfl, .inl ⟨rfl, _, hN⟩, _, rfl, a, _, 0, _, rfl, rfl, hA, i0, n, _, _, names.idxOf cl.n, z1, rfl, rfl, hN, rfl, z2, z3, z4, z5, r, _, _, _, rfl, rfl, hR, at_ofN rfl (at_some hf.1 hl), ?_⟩
    unfold clauseM at q
    refine ⟨_, rfl, a, _, 1, _, rfl, rfl, hA, i1, rfl, _, rfl, ?_⟩
    refine ifD (fun h1 => ?_) (fun h1 => ?_)
    · rw [if_pos (V.str.inj h1)] at q
      refine ⟨_, rfl, rfl, _, rfl, a, _, 1, _, rfl, rfl, hA, i1, rfl, rfl, ?_⟩
      have e : decide (V.bl (decide (at_ names row cl.n = V.non)) = V.bl (decide (V.str cl.op = V.str "null"))) = decide (at_ names row cl.n = V.non) := by
        rw [decide_eq_true h1]
        by_cases h : at_ names row cl.n = V.non
        · rw [decide_eq_true h]; rfl
        · rw [decide_eq_false h]; rfl
      rw [← e] at q
      exact q
    rw [if_neg (fun z => h1 (congrArg V.str z))] at q
    refine ⟨_, rfl, a, _, 1, _, rfl, rfl, hA, i1, rfl, _, rfl, ?_⟩
    refine ifD (fun h2 => ?_) (fun h2 => ?_)
    · rw [if_pos (V.str.inj h2)] at q
      refine ⟨_, rfl, rfl, _, rfl, a, _, 1, _, rfl, rfl, hA, i1, rfl, rfl, ?_⟩
      have e : decide (V.bl (decide (at_ names row cl.n = V.non)) = V.bl (decide (V.str cl.op = V.str "null"))) = !decide (at_ names row cl.n = V.non) := by
        rw [decide_eq_false h1]
        by_cases h : at_ names row cl.n = V.non
        · rw [decide_eq_true h]; rfl
        · rw [decide_eq_false h]; rfl
      rw [← e] at q
      exact q
    rw [if_neg (fun z => h2 (congrArg V.str z))] at q
    refine ⟨_, rfl, rfl, _, rfl, ?_⟩
    refine ifN (fun h3 => ?_) (fun h3 => ?_)
    · rw [if_neg h3] at q
      have al : Alike (at_ names row cl.n) cl.v := by
        rcases hf.2 with z | z | z | z
        · exact absurd (congrArg V.str z) h1
        · exact absurd (congrArg V.str z) h2
        · exact absurd z h3
        · exact z
      exact ⟨_, rfl, _, rfl, a, _, 1, _, rfl, rfl, hA, i1, _, rfl, a, _, 2, _, rfl, rfl, hA, i2, _, _, _, rfl, al, q⟩
    · rw [if_pos h3] at q
      exact q)
theorem ok_law_holds {f : Addr} {fd : FuncData} (k : Kn K mg "_law_holds" s_law_holds ["condition", "names", "row"] f fd) (z : Z mg)
    {g_law_clause_holds : Addr} {gd_law_clause_holds : FuncData} (c_law_clause_holds : Cal P w K mg base 2 "_law_clause_holds" ["clause", "names", "row"] (spClauseH K) g_law_clause_holds gd_law_clause_holds) :
    Cal P w K mg base 3 "_law_holds" ["condition", "names", "row"] (spHolds) f fd := k.cal (by
  refine k.F.ok sc_law_holds (fun vs H Q E h => ?_) (fun cdv A outer s H vs Q E hr h => ?_)
  · obtain ⟨c, n, r, cond, names, row, rfl, _⟩ := h; rfl
  · obtain ⟨c, n, r, cond, names, row, rfl, A, q⟩ := h
    refine ⟨_, (pss_cons (ps_set (i := 3) sc_law_holds.nd rfl (Or.inl rfl) pe_bl)
        (pss_cons (ps_for PassesOwn.never rfl (pi_tup (pv 0)) (pg_name (i := 4) sc_law_holds.nd rfl (Or.inl rfl))
        (pss_cons (ps_set (i := 5) sc_law_holds.nd rfl (Or.inl rfl) pe_bl)
        (pss_cons (ps_for PassesOwn.never rfl (pi_tup (pv 4)) (pg_name (i := 6) sc_law_holds.nd rfl (Or.inl rfl))
        (pss_one (ps_set (i := 5) sc_law_holds.nd rfl (Or.inl rfl) (pe_and (pv 5) (pe_one (pe_call c_law_clause_holds.G (hr.mono (by decide)) (by rfl) c_law_clause_holds.m c_law_clause_holds.kp c_law_clause_holds.b .nil pass0 (pa_cons (pv 6) (pa_cons (pv 1) (pa_cons (pv 2) pa_nil)))))))))
        (pss_one (ps_set (i := 3) sc_law_holds.nd rfl (Or.inl rfl) (pe_or (pv 3) (pe_one (pv 5))))))))
        (pss_one (ps_ret (pv 3))))), ?_⟩
    obtain ⟨c', xs, e, hc, rc⟩ := t_at A.cn
    cases e
    have hx : xs.length = cond.length := by rw [rc.length, List.length_map]
    refine ⟨_, rfl, c, rfl, ⟨_, SqT.of hc⟩, for_tup (K := K) (a := c) (xs := xs) (fun i σ H' => (∃ v4 v5 v6, σ = [some (.ref c), some (.ref n), some (.ref r), some (.bl ((cond.take i).any (altM names row))), v4, v5, v6]) ∧ H' = H) ⟨⟨none, none, none, rfl⟩, rfl⟩ (fun i σ H' _ hh => by rw [hh.2]; exact SqT.of hc) ?_ ?_⟩
    · rintro i x σ H1 hi ⟨⟨v4, v5, v6, rfl⟩, rfl⟩
      have hil : i < cond.length := by rw [← hx]; exact (List.getElem?_eq_some_iff.mp hi).1
      have ec : cond[i]? = some cond[i] := List.getElem?_eq_getElem hil
      have hm : cond[i] ∈ cond := List.getElem_mem hil
      obtain ⟨v, k1, k2⟩ := rc.get' (i := i) (d := altD cond[i]) (by rw [List.getElem?_map, ec]; rfl)
      rw [hi] at k1
      cases k1
      obtain ⟨al, ys, rfl, ha, ra⟩ := t_at k2
      have hy : ys.length = cond[i].length := by rw [ra.length, List.length_map]
      refine ⟨_, rfl, al, rfl, ⟨_, SqT.of ha⟩, for_tup (K := K) (a := al) (xs := ys) (fun j σ H' => (∃ v6, σ = [some (.ref c), some (.ref n), some (.ref r), some (.bl ((cond.take i).any (altM names row))), some (.ref al), some (.bl ((cond[i].take j).all (clauseM names row))), v6]) ∧ H' = H1) ⟨⟨_, rfl⟩, rfl⟩ (fun j σ H' _ hh => by rw [hh.2]; exact SqT.of ha) ?_ ?_⟩
      · rintro j y σ H2 hj ⟨⟨v6, rfl⟩, rfl⟩
        have hjl : j < cond[i].length := by rw [← hy]; exact (List.getElem?_eq_some_iff.mp hj).1
        have ej : cond[i][j]? = some cond[i][j] := List.getElem?_eq_getElem hjl
        have hmj : cond[i][j] ∈ cond[i] := List.getElem_mem hjl
        obtain ⟨v, g1, g2⟩ := ra.get' (i := j) (d := clD cond[i][j]) (by rw [List.getElem?_map, ej]; rfl)
        rw [hj] at g1
        cases g1
        obtain ⟨ca, rfl, hca, hsc⟩ := cl_at g2
        refine ⟨_, rfl, _, rfl, ?_⟩
        cases hg : (cond[i].take j).all (clauseM names row) with
        | true =>
          refine iteT ⟨_, rfl, _, rfl, _, rfl, ca, n, r, cond[i][j], names, row, rfl, SqT.of hca, SqL.of A.nm, SqT.of A.rw, A.ln, at_scal A.sc, A.ft _ hm _ hmj, ?_⟩
          refine ⟨⟨some (.ref ca), ?_⟩, rfl⟩
          rw [all_take ej, hg]
          rfl
        | false =>
          refine iteF ⟨⟨some (.ref ca), ?_⟩, rfl⟩
          rw [all_take ej, hg]
          rfl
      · rintro σ H2 ⟨⟨v6, rfl⟩, rfl⟩
        have et : cond[i].take ys.length = cond[i] := List.take_of_length_le (by omega)
        rw [et]
        refine ⟨_, rfl, _, rfl, ?_⟩
        cases hg : (cond.take i).any (altM names row) with
        | true =>
          refine iteT ⟨⟨some (.ref al), some (.bl (cond[i].all (clauseM names row))), v6, ?_⟩, rfl⟩
          rw [any_take ec, hg]
          rfl
        | false =>
          refine iteF ⟨_, rfl, ⟨some (.ref al), some (.bl (cond[i].all (clauseM names row))), v6, ?_⟩, rfl⟩
          rw [any_take ec, hg]
          rfl
    · rintro σ H1 ⟨⟨v4, v5, v6, rfl⟩, rfl⟩
      have et : cond.take xs.length = cond := List.take_of_length_le (by omega)
      rw [et]
      exact ⟨_, rfl, q _ (Same.refl _)⟩)
theorem ok_law_breaks_check {f : Addr} {fd : FuncData} (k : Kn K mg "_law_breaks_check" s_law_breaks_check ["description", "row"] f fd) (z : Z mg)
    {g_law_names : Addr} {gd_law_names : FuncData} (c_law_names : Cal P w K mg base 1 "_law_names" ["columns"] (spNames) g_law_names gd_law_names)
    {g_law_holds : Addr} {gd_law_holds : FuncData} (c_law_holds : Cal P w K mg base 3 "_law_holds" ["condition", "names", "row"] (spHolds) g_law_holds gd_law_holds) :
    Cal P w K mg base 4 "_law_breaks_check" ["description", "row"] (spBreaksC) f fd := k.cal (by
  refine k.F.ok sc_law_breaks_check (fun vs H Q E h => ?_) (fun cdv A outer s H vs Q E hr h => ?_)
  · obtain ⟨a, tab, ra, r, rws, fr, rfl, _⟩ := h; rfl
  · obtain ⟨a, tab, ra, r, rws, fr, rfl, D, ok, hra, hm, F, q⟩ := h
    have hu := hu_of hr
    refine ⟨_, (pss_cons (ps_set (i := 2) sc_law_breaks_check.nd rfl (Or.inl rfl) (pe_call c_law_names.G (hr.mono (by decide)) (by rfl) c_law_names.m c_law_names.kp c_law_names.b .nil pass0 (pa_cons (pe_dget hu (pv 0) pe_str (fun _ _ => rfl)) pa_nil)))
        (pss_cons (ps_for PassesOwn.never rfl (pi_list (pe_dget hu (pv 0) pe_str (fun _ _ => rfl))) (pg_name (i := 3) sc_law_breaks_check.nd rfl (Or.inl rfl))
        (pss_one (ps_if (pt_not (pt_val (pe_call c_law_holds.G (hr.mono (by decide)) (by rfl) c_law_holds.m c_law_holds.kp c_law_holds.b .nil pass0 (pa_cons (pv 3) (pa_cons (pv 2) (pa_cons (pv 1) pa_nil)))))) (pss_one (ps_ret pe_bl)) pss_nil)))
        (pss_one (ps_ret pe_bl)))), ?_⟩
    have l5 := ok.l5
    refine ⟨_, rfl, a.d, _, rfl, D.gc, a.c, tab.cols, rfl, D.co, by omega, fun N H1 hN s1 hN1 => ?_⟩
    have D1 := D.mono s1
    obtain ⟨xk, k1, k2⟩ := D1.ch
    have lk : xk.length = tab.ch.length := by rw [k2.length, List.length_map]
    refine ⟨_, rfl, a.d, _, rfl, D1.gk, a.k, rfl, ⟨_, SqL.of k1⟩, for_it walk_list (fun j σ H' => ∃ v3, σ = [some (.ref a.d), some (.ref ra), some (.ref N), v3] ∧ Same H1 H' ∧ (tab.ch.take j).all (holdsM (colNs tab.cols) r) = true) ⟨none, rfl, Same.refl _, rfl⟩ (fun i σ H' _ ⟨_, _, e, _⟩ => SqL.of (e _ _ k1)) ?_ ?_⟩
    · rintro j y σ H3 H3' hj ⟨v3, rfl, s3, ab⟩ ⟨rfl, ey⟩
      have hjl : j < tab.ch.length := by omega
      have ec : tab.ch[j]? = some tab.ch[j] := List.getElem?_eq_getElem hjl
      obtain ⟨v, g1, g2⟩ := k2.get' (i := j) (d := condD tab.ch[j]) (by rw [List.getElem?_map, ec]; rfl)
      rw [ey] at g1
      cases g1
      obtain ⟨ca, ws, rfl, ha, rra⟩ := t_at g2
      have cs := ok.cc _ (List.getElem_mem hjl)
      have S3 : Same H H3' := s1.trans s3
      refine ⟨_, rfl, _, rfl, _, rfl, ca, N, ra, tab.ch[j], colNs tab.cols, r, rfl, ⟨g2.mono (KeepT.of s3), s3 _ _ hN1, S3 _ _ hra, by rw [F.n r hm]; unfold colNs; rw [List.length_map], F.scal hm, fun x hx cl hcl => fit_of ok.co.nd (F.n r hm) (F.v r hm) ((cs.2 x hx).2 cl hcl), fun x hx => by have := (cs.2 x hx).1; omega⟩, fun H4 s4 => ⟨_, rfl, ?_⟩⟩
      refine ite2 (fun hb => ?_) (fun hb => ?_)
      · have : badC tab r = true := by
          unfold badC
          cases e : tab.ch.all (holdsM (colNs tab.cols) r) with
          | false => rfl
          | true =>
            have := List.all_eq_true.mp e _ (List.getElem_mem hjl)
            rw [this] at hb; cases hb
        rw [this] at q
        exact q _ (S3.trans s4)
      · refine ⟨_, rfl, s3.trans s4, ?_⟩
        rw [all_take ec, ab, Bool.true_and]
        simpa using hb
    · rintro σ H3 ⟨v3, rfl, s3, ab⟩
      rw [lk, List.take_length] at ab
      have : badC tab r = false := by unfold badC; rw [ab]; rfl
      rw [this] at q
      exact q _ (s1.trans s3))
theorem ok_law_breaks_unique {f : Addr} {fd : FuncData} (k : Kn K mg "_law_breaks_unique" s_law_breaks_unique ["description", "earlier", "row"] f fd) (z : Z mg)
    {g_law_names : Addr} {gd_law_names : FuncData} (c_law_names : Cal P w K mg base 1 "_law_names" ["columns"] (spNames) g_law_names gd_law_names) :
    Cal P w K mg base 2 "_law_breaks_unique" ["description", "earlier", "row"] (spBreaksU) f fd := k.cal (by
  refine k.F.ok sc_law_breaks_unique (fun vs H Q E h => ?_) (fun cdv A outer s H vs Q E hr h => ?_)
  · obtain ⟨a, tab, ra, E, r, ews, rws, fr, rfl, _⟩ := h; rfl
  · obtain ⟨a, tab, ra, E, r, ews, rws, fr, rfl, D, ok, hra, hm, he, F, R, q⟩ := h
    have hu := hu_of hr
    refine ⟨_, (pss_cons (ps_set (i := 3) sc_law_breaks_unique.nd rfl (Or.inl rfl) (pe_call c_law_names.G (hr.mono (by decide)) (by rfl) c_law_names.m c_law_names.kp c_law_names.b .nil pass0 (pa_cons (pe_dget hu (pv 0) pe_str (fun _ _ => rfl)) pa_nil)))
        (pss_cons (ps_for PassesOwn.never rfl (pi_list (pe_dget hu (pv 0) pe_str (fun _ _ => rfl))) (pg_name (i := 4) sc_law_breaks_unique.nd rfl (Or.inl rfl))
        (pss_cons (ps_set (i := 5) sc_law_breaks_unique.nd rfl (Or.inl rfl) (pe_bm PySem.F.plainAttrs_list PySem.F.slot_list_index PySem.F.type_list_index mt_index (pv 3) (pa_cons (pv 4) pa_nil)))
        (pss_one (ps_for PassesOwn.never rfl (pi_list (pv 1)) (pg_name (i := 6) sc_law_breaks_unique.nd rfl (Or.inl rfl))
        (pss_one (ps_if (PW.pt (pw_and (pt_cmpR op_notN (pe_ix ix_tup (pv 2) (pv 5) (fun _ _ => rfl)) pe_non (nomark _)) (pw_and1 (pt_cmpR op_eq (pe_ix ix_tup (pv 6) (pv 5) (fun _ _ => rfl)) (pe_ix ix_tup (pv 2) (pv 5) (fun _ _ => rfl)) (nomark _))))) (pss_one (ps_ret pe_bl)) pss_nil))))))
        (pss_one (ps_ret pe_bl)))), ?_⟩
    have l5 := ok.l5
    refine ⟨_, rfl, a.d, _, rfl, D.gc, a.c, tab.cols, rfl, D.co, by omega, fun N H1 hN s1 hN1 => ?_⟩
    have D1 := D.mono s1
    have un : ∀ n ∈ tab.un, n ∈ colNs tab.cols := fun n hn => by
      have := ok.uc n hn
      unfold colNs at this ⊢
      rw [List.map_drop] at this
      exact List.mem_of_mem_drop this
    have hrl : ∀ {r : List V}, r ∈ rws → r.length = (colNs tab.cols).length := fun {r} hm => by rw [F.n r hm]; unfold colNs; rw [List.length_map]
    obtain ⟨xs, hE, lx, hx⟩ := (R.same s1).get
    refine ⟨_, rfl, a.d, _, rfl, D1.gu, a.u, rfl, ⟨_, SqL.of D1.un⟩, for_it walk_list (fun j σ H' => ∃ v4 v5 v6, σ = [some (.ref a.d), some (.ref E), some (.ref ra), some (.ref N), v4, v5, v6] ∧ H' = H1 ∧ ((tab.un.take j).any fun n => ews.any fun x => clash (colNs tab.cols) x r n) = false) ⟨none, none, none, rfl, rfl, rfl⟩ (fun i σ H' _ ⟨_, _, _, _, e, _⟩ => by rw [e]; exact SqL.of D1.un) ?_ ?_⟩
    · rintro j y σ H3 H3' hj ⟨v4, v5, v6, rfl, rfl, ab⟩ ⟨rfl, ey⟩
      rw [List.length_map] at hj
      have en : tab.un[j]? = some tab.un[j] := List.getElem?_eq_getElem hj
      rw [List.getElem?_map, en] at ey
      cases ey
      have hmn := List.getElem_mem hj
      generalize tab.un[j] = n at en hmn
      have hn := un n hmn
      obtain ⟨z, i1, i2, i3, i4⟩ := ix_names hn
      refine ⟨_, rfl, .inl ⟨rfl, _, SqL.of hN1⟩, _, rfl, N, _, _, (colNs tab.cols).idxOf n, z, rfl, rfl, SqL.of hN1, rfl, i1, i2, i3, i4, ?_⟩
      refine ⟨_, rfl, E, rfl, ⟨_, SqL.of hE⟩, for_it walk_list (fun k σ H' => ∃ v6, σ = [some (.ref a.d), some (.ref E), some (.ref ra), some (.ref N), some (.str n), some (.int (((colNs tab.cols).idxOf n : Nat) : Int)), v6] ∧ H' = H3' ∧ ((ews.take k).any fun x => clash (colNs tab.cols) x r n) = false) ⟨v6, rfl, rfl, rfl⟩ (fun i σ H' _ ⟨_, _, e, _⟩ => by rw [e]; exact SqL.of hE) ?_ ?_⟩
      · rintro k w σ H4 H4' hk ⟨v6, rfl, rfl, ac⟩ ⟨rfl, ew⟩
        obtain ⟨oa, o, rfl, ho1, ho2⟩ := hx _ _ ew
        have hom := he o (List.mem_of_getElem? ho1)
        have hra4 := s1 _ _ hra
        have stp : ((ews.take (k + 1)).any fun x => clash (colNs tab.cols) x r n) = clash (colNs tab.cols) o r n := by rw [any_take ho1, ac, Bool.false_or]
        obtain ⟨_, _, vv⟩ := at_vals F hn
        refine ⟨_, rfl, _, rfl, ra, _, _, _, rfl, rfl, SqT.of hra4, at_ofN rfl (at_some hn (hrl hm)), rfl, _, rfl, ?_⟩
        have yes : clash (colNs tab.cols) o r n = true → badU tab ews r = true := fun h => by
          unfold badU
          exact List.any_eq_true.mpr ⟨n, hmn, List.any_eq_true.mpr ⟨o, List.mem_of_getElem? ho1, h⟩⟩
        refine ifN (fun hv => ?_) (fun hv => ?_)
        · refine ⟨_, rfl, _, rfl, oa, _, _, _, rfl, rfl, SqT.of ho2, at_ofN rfl (at_some hn (hrl hom)), _, rfl, _, rfl, ra, _, _, _, rfl, rfl, SqT.of hra4, at_ofN rfl (at_some hn (hrl hm)), val_scal (vv o hom) (vv r hm), _, rfl, ?_⟩
          refine ifD (fun hw => ?_) (fun hw => ⟨_, rfl, rfl, ?_⟩)
          · rw [yes (by unfold clash; rw [decide_eq_false hv, decide_eq_true hw]; rfl)] at q
            exact q _ s1
          · rw [stp]
            unfold clash
            rw [decide_eq_false hw, Bool.and_false]
        · refine ⟨_, rfl, rfl, ?_⟩
          rw [stp]
          unfold clash
          rw [decide_eq_true hv]
          rfl
      · rintro σ H4 ⟨v6, rfl, rfl, ac⟩
        have le : ews.take xs.length = ews := List.take_of_length_le (by omega)
        rw [le] at ac
        refine ⟨_, _, _, rfl, rfl, ?_⟩
        rw [any_take en, ab, Bool.false_or]
        exact ac
    · rintro σ H3 ⟨v4, v5, v6, rfl, rfl, ab⟩
      rw [List.length_map, List.take_length] at ab
      have : badU tab ews r = false := ab
      rw [this] at q
      exact q _ s1)
theorem ok_law_breaks_reference {f : Addr} {fd : FuncData} (k : Kn K mg "_law_breaks_reference" s_law_breaks_reference ["description", "state", "row"] f fd) (z : Z mg)
    {g_law_names : Addr} {gd_law_names : FuncData} (c_law_names : Cal P w K mg base 1 "_law_names" ["columns"] (spNames) g_law_names gd_law_names) :
    Cal P w K mg base 2 "_law_breaks_reference" ["description", "state", "row"] (spBreaksR) f fd := k.cal (by
  refine k.F.ok sc_law_breaks_reference (fun vs H Q E h => ?_) (fun cdv A outer s H vs Q E hr h => ?_)
  · obtain ⟨S, s, T, st, p, ra, r, rws, rfl, _⟩ := h; rfl
  · obtain ⟨S, s, T, st, p, ra, r, rws, rfl, B, hp, hra, hm, F, q⟩ := h
    have hu := hu_of hr
    refine ⟨_, (pss_cons (ps_set (i := 3) sc_law_breaks_reference.nd rfl (Or.inl rfl) (pe_call c_law_names.G (hr.mono (by decide)) (by rfl) c_law_names.m c_law_names.kp c_law_names.b .nil pass0 (pa_cons (pe_dget hu (pv 0) pe_str (fun _ _ => rfl)) pa_nil)))
        (pss_cons (ps_for PassesOwn.never rfl (pi_list (pe_dget hu (pv 0) pe_str (fun _ _ => rfl))) (pg_tup (by rfl) (pgs_cons (pg_name (i := 4) sc_law_breaks_reference.nd rfl (Or.inl rfl)) (pgs_cons (pg_name (i := 5) sc_law_breaks_reference.nd rfl (Or.inl rfl)) pgs_nil)))
        (pss_cons (ps_set (i := 6) sc_law_breaks_reference.nd rfl (Or.inl rfl) (pe_ix ix_tup (pv 2) (pe_bm PySem.F.plainAttrs_list PySem.F.slot_list_index PySem.F.type_list_index mt_index (pv 3) (pa_cons (pv 4) pa_nil)) (fun _ _ => rfl)))
        (pss_one (ps_if (PW.pt (pw_and (pt_cmpR op_notN (pv 6) pe_non (nomark _)) (pw_and1 (pt_cmp (pc_dnotin hu (pv 6) (pe_dget hu (pv 1) (pv 5) (fun _ _ => rfl))))))) (pss_one (ps_ret pe_bl)) pss_nil))))
        (pss_one (ps_ret pe_bl)))), ?_⟩
    have D := B.ds p hp
    have ok := B.ok p hp
    have l5 := ok.l5
    refine ⟨_, rfl, p.1.d, _, rfl, D.gc, p.1.c, p.2.cols, rfl, D.co, by omega, fun N H1 hN s1 hN1 => ?_⟩
    have B1 := B.mono s1
    have D1 := D.mono s1
    obtain ⟨xr, r1, r2⟩ := D1.rf
    have lr : xr.length = p.2.rf.length := by rw [r2.length, List.length_map]
    have hrl : r.length = (colNs p.2.cols).length := by rw [F.n r hm]; unfold colNs; rw [List.length_map]
    refine ⟨_, rfl, p.1.d, _, rfl, D1.gr, p.1.r, rfl, ⟨_, SqL.of r1⟩, for_it walk_list (fun i σ H' => ∃ v4 v5 v6, σ = [some (.ref p.1.d), some (.ref T), some (.ref ra), some (.ref N), v4, v5, v6] ∧ H' = H1 ∧ ((p.2.rf.take i).any fun x => !decide (at_ (colNs p.2.cols) r x.1 = .non) && !((stKs st x.2).any fun k => decide (kV k = at_ (colNs p.2.cols) r x.1))) = false) ⟨none, none, none, rfl, rfl, rfl⟩ (fun i σ H' _ ⟨_, _, _, _, e, _⟩ => by rw [e]; exact SqL.of r1) ?_ ?_⟩
    · rintro i x σ H2 H2' hi ⟨v4, v5, v6, rfl, rfl, ab⟩ ⟨rfl, ex⟩
      have hil : i < p.2.rf.length := by omega
      have ec : p.2.rf[i]? = some p.2.rf[i] := List.getElem?_eq_getElem hil
      have hmr := List.getElem_mem hil
      obtain ⟨v, g1, g2⟩ := r2.get' (i := i) (d := rfD p.2.rf[i]) (by rw [List.getElem?_map, ec]; rfl)
      rw [ex] at g1
      cases g1
      obtain ⟨fa, rfl, hfa⟩ := rf_at g2
      generalize p.2.rf[i] = x at ec hmr hfa
      obtain ⟨col, hc, ecn, _⟩ := ok.rc x hmr
      have hn : x.1 ∈ colNs p.2.cols := by rw [← ecn]; exact List.mem_map.mpr ⟨col, List.mem_of_mem_drop hc, rfl⟩
      obtain ⟨z, i1, i2, i3, i4⟩ := ix_names hn
      obtain ⟨tq, htq, etq⟩ := B1.ref hp x hmr
      obtain ⟨_, _, vv⟩ := at_val F hm hn
      refine ⟨fa, _, rfl, SqT.of hfa, rfl, _, _, rfl, _, _, rfl, rfl, ?_⟩
      refine ⟨_, rfl, _, rfl, .inl ⟨rfl, _, SqL.of hN1⟩, _, rfl, N, _, _, (colNs p.2.cols).idxOf x.1, z, rfl, rfl, SqL.of hN1, rfl, i1, i2, i3, i4, ra, _, _, _, rfl, rfl, SqT.of (s1 _ _ hra), at_ofN rfl (at_some hn hrl), ?_⟩
      have stp : ((p.2.rf.take (i + 1)).any fun x => !decide (at_ (colNs p.2.cols) r x.1 = .non) && !((stKs st x.2).any fun k => decide (kV k = at_ (colNs p.2.cols) r x.1))) = (!decide (at_ (colNs p.2.cols) r x.1 = .non) && !((stKs st x.2).any fun k => decide (kV k = at_ (colNs p.2.cols) r x.1))) := by
        rw [List.take_add_one, ec, List.any_append, ab]; simp
      refine ⟨_, rfl, rfl, _, rfl, ?_⟩
      refine ifN (fun hv => ?_) (fun hv => ?_)
      · have htab := B1.sa.ds tq htq
        have gd := DGet.k (k := vKey (at_ (colNs p.2.cols) r x.1)) htab.dk
        rw [kV_vKey vv hv] at gd
        rw [decide_eq_false hv, ← etq, stKs_eq B1.sa.nm htq, ← key_in vv hv] at stp
        refine ⟨_, rfl, _, rfl, _, rfl, T, _, rfl, by rw [← etq]; exact B1.sa.get htq, tq.d, _, rfl, gd, _, rfl, ?_⟩
        refine ite2 (fun hb => ?_) (fun hb => ?_)
        · have : badR (stKs st) p.2 r = true := by
            unfold badR
            refine List.any_eq_true.mpr ⟨x, hmr, ?_⟩
            rw [decide_eq_false hv, ← etq, stKs_eq B1.sa.nm htq, ← key_in vv hv]
            exact hb
          rw [this] at q
          exact q _ s1
        · refine ⟨_, _, _, rfl, rfl, ?_⟩
          rw [stp, Bool.eq_false_iff.mpr hb]
          rfl
      · refine ⟨_, _, _, rfl, rfl, ?_⟩
        rw [stp, decide_eq_true hv]
        rfl
    · rintro σ H2 ⟨v4, v5, v6, rfl, rfl, ab⟩
      rw [lr, List.take_length] at ab
      have : badR (stKs st) p.2 r = false := ab
      rw [this] at q
      exact q _ s1)
theorem ok_law_fault {f : Addr} {fd : FuncData} (k : Kn K mg "_law_fault" s_law_fault ["schema", "state"] f fd) (z : Z mg)
    {g_law_sorted_rows : Addr} {gd_law_sorted_rows : FuncData} (c_law_sorted_rows : Cal P w K mg base 1 "_law_sorted_rows" ["rows_v"] (spSortedRows) g_law_sorted_rows gd_law_sorted_rows)
    {g_law_breaks_check : Addr} {gd_law_breaks_check : FuncData} (c_law_breaks_check : Cal P w K mg base 4 "_law_breaks_check" ["description", "row"] (spBreaksC) g_law_breaks_check gd_law_breaks_check)
    {g_law_breaks_unique : Addr} {gd_law_breaks_unique : FuncData} (c_law_breaks_unique : Cal P w K mg base 2 "_law_breaks_unique" ["description", "earlier", "row"] (spBreaksU) g_law_breaks_unique gd_law_breaks_unique)
    {g_law_breaks_reference : Addr} {gd_law_breaks_reference : FuncData} (c_law_breaks_reference : Cal P w K mg base 2 "_law_breaks_reference" ["description", "state", "row"] (spBreaksR) g_law_breaks_reference gd_law_breaks_reference) :
    Cal P w K mg base 5 "_law_fault" ["schema", "state"] (spFault) f fd := k.cal (by
  refine k.F.ok sc_law_fault (fun vs H Q E h => ?_) (fun cdv A outer s H vs Q E hr h => ?_)
  · obtain ⟨S, s, T, st, rfl, _⟩ := h; rfl
  · obtain ⟨S, s, T, st, rfl, B, q⟩ := h
    have hu := hu_of hr
    refine ⟨_, (pss_cons (ps_for PassesOwn.never rfl (pi_list (pe_callB (call_sortedK rfl) (by rfl) z.sorted (by decide +kernel) (pa_cons (pv 0) pa_nil))) (pg_name (i := 2) sc_law_fault.nd rfl (Or.inl rfl))
        (pss_cons (ps_set (i := 3) sc_law_fault.nd rfl (Or.inl rfl) (pe_dget hu (pv 0) (pv 2) (fun _ _ => rfl)))
        (pss_cons (ps_set (i := 4) sc_law_fault.nd rfl (Or.inl rfl) (pe_call c_law_sorted_rows.G (hr.mono (by decide)) (by rfl) c_law_sorted_rows.m c_law_sorted_rows.kp c_law_sorted_rows.b .nil pass0 (pa_cons (pe_dget hu (pv 1) (pv 2) (fun _ _ => rfl)) pa_nil)))
        (pss_cons (ps_if (pt_cmpR op_gt (pe_callB call_len_seq (by rfl) z.len (by decide +kernel) (pa_cons (pv 4) pa_nil)) pe_int (nomark _)) (pss_one (ps_ret (pe_tup (pa_cons pe_str (pa_cons (pv 2) (pa_cons (pe_ix ix_tup (pe_ix ix_list (pv 4) pe_int (fun _ _ => rfl)) pe_int (fun _ _ => rfl)) pa_nil)))))) pss_nil)
        (pss_cons (ps_for PassesOwn.never rfl (pi_list (pv 4)) (pg_name (i := 5) sc_law_fault.nd rfl (Or.inl rfl))
        (pss_one (ps_if (pt_val (pe_call c_law_breaks_check.G (hr.mono (by decide)) (by rfl) c_law_breaks_check.m c_law_breaks_check.kp c_law_breaks_check.b .nil pass0 (pa_cons (pv 3) (pa_cons (pv 5) pa_nil)))) (pss_one (ps_ret (pe_tup (pa_cons pe_str (pa_cons (pv 2) (pa_cons (pe_ix ix_tup (pv 5) pe_int (fun _ _ => rfl)) pa_nil)))))) pss_nil)))
        (pss_cons (ps_for PassesOwn.never rfl (pi_range1 (by rfl) z.range (pa_cons (pe_callB call_len_seq (by rfl) z.len (by decide +kernel) (pa_cons (pv 4) pa_nil)) pa_nil)) (pg_name (i := 6) sc_law_fault.nd rfl (Or.inl rfl))
        (pss_one (ps_if (pt_val (pe_call c_law_breaks_unique.G (hr.mono (by decide)) (by rfl) c_law_breaks_unique.m c_law_breaks_unique.kp c_law_breaks_unique.b .nil pass0 (pa_cons (pv 3) (pa_cons (pe_slice sl_list (pv 4) po_none (po_some (pv 6))) (pa_cons (pe_ix ix_list (pv 4) (pv 6) (fun _ _ => rfl)) pa_nil))))) (pss_one (ps_ret (pe_tup (pa_cons pe_str (pa_cons (pv 2) (pa_cons (pe_ix ix_tup (pe_ix ix_list (pv 4) (pv 6) (fun _ _ => rfl)) pe_int (fun _ _ => rfl)) pa_nil)))))) pss_nil)))
        (pss_one (ps_for PassesOwn.never rfl (pi_list (pv 4)) (pg_name (i := 5) sc_law_fault.nd rfl (Or.inl rfl))
        (pss_one (ps_if (pt_val (pe_call c_law_breaks_reference.G (hr.mono (by decide)) (by rfl) c_law_breaks_reference.m c_law_breaks_reference.kp c_law_breaks_reference.b .nil pass0 (pa_cons (pv 3) (pa_cons (pv 1) (pa_cons (pv 5) pa_nil))))) (pss_one (ps_ret (pe_tup (pa_cons pe_str (pa_cons (pv 2) (pa_cons (pe_ix ix_tup (pv 5) pe_int (fun _ _ => rfl)) pa_nil)))))) pss_nil))))))))))
        (pss_one (ps_ret pe_non))), ?_⟩
    refine ⟨_, rfl, S, schK s, rfl, .inl B.sk, .inr ⟨schN s, sch_keys s⟩, fun ys P hper hsrt hP => ?_⟩
    rw [sch_keys] at hper
    have ey' : ys = sortK ((schN s).map Sum.inr) := sortK_eq hper hsrt
    have e1 := same_new hP (.lst (ys.map kV))
    refine ⟨P, rfl, ⟨_, SqL.of upd_same⟩, for_it walk_list (fun i σ H' => ∃ v2 v3 v4 v5 v6, σ = [some (.ref S), some (.ref T), v2, v3, v4, v5, v6] ∧ Same (upd H P (.lst (ys.map kV))) H' ∧ (ys.take i).findSome? (faultK s st) = none) ⟨none, none, none, none, none, rfl, Same.refl _, rfl⟩ (fun i σ H' _ ⟨_, _, _, _, _, _, e, _⟩ => SqL.of (e _ _ upd_same)) ?_ ?_⟩
    · rintro i x σ H1 H1' hi ⟨v2, v3, v4, v5, v6, rfl, s1, no⟩ ⟨rfl, ex⟩
      rw [List.length_map] at hi
      have ey : ys[i]? = some ys[i] := List.getElem?_eq_getElem hi
      rw [List.getElem?_map, ey] at ex
      cases ex
      have hmy := List.getElem_mem hi
      generalize ys[i] = y at ey hmy
      have hmem := hper.mem_iff.mp hmy
      obtain ⟨n, hn, rfl⟩ := List.mem_map.mp hmem
      obtain ⟨p, hp, rfl⟩ := sch_in hn
      have S1 := e1.trans s1
      have ok := B.ok p hp
      obtain ⟨tq, htq, etq, fit⟩ := B.fit p hp
      have A := B.sa.ds tq htq
      have F := rowsM_fit A.nd fit ok.co.hd
      have hN := faultN_eq B.nm B.sa.nm hp htq etq
      have h200 := F.l
      -- the answer, once the first fault of the table is known
      have ans : ∀ (c : Str) (kk : V) (H2 : Hp) (pr : Addr), faultT (stKs st) p.2 (rowsM tq.rs) = some (c, kk) → isScal kk = true → Same H1' H2 → H2 pr = none → Q (.ref pr) (upd H2 pr (.tup [.str c, .str p.2.n, kk])) := fun c kk H2 pr hf hs s2 hpr => by
        rw [hf] at hN
        have hit := findSome_hit ey no (show faultK s st (Sum.inr p.2.n) = some (c, p.2.n, kk) from hN)
        have em : faultM s st = some (c, p.2.n, kk) := by unfold faultM; rw [← ey']; exact hit
        rw [em] at q
        exact q (.ref pr) _ ⟨pr, rfl, upd_same, hs⟩ (S1.trans (s2.trans (same_new hpr _)))
      have vscal : ∀ r ∈ rowsM tq.rs, isScal (headV r) = true := fun r hr => by
        obtain ⟨_, _, v⟩ := keys_scal F ok.l0 hr
        exact v.scal
      refine ⟨_, rfl, _, rfl, S, _, rfl, sch_getK (S1 _ _ B.sk) B.nm hp, ?_⟩
      refine ⟨_, rfl, _, rfl, T, _, rfl, by rw [← etq]; exact (B.sa.mono S1).get htq, tq.d, tq.rs, rfl, A.mono (KeepT.of S1) (fun o => S1 _ _), B.key hp fit, DB.rest ok.l5 fit, fit.l, fun L H2 R2 s2 _ => ?_⟩
      obtain ⟨xs, hL, lx, hx⟩ := R2.get
      refine ⟨_, rfl, L, _, rfl, .inl (SqL.of hL), _, _, rfl, rfl, _, rfl, ?_⟩
      refine ifD (fun hbig => ?_) (fun hsm => ?_)
      · -- full
        have h60 : 60 < (rowsM tq.rs).length := by omega
        have er : (rowsM tq.rs)[60]? = some (rowsM tq.rs)[60] := List.getElem?_eq_getElem h60
        have hmr := List.getElem_mem h60
        generalize (rowsM tq.rs)[60] = r at er hmr
        obtain ⟨v, vs, rfl⟩ := F.ne ok.l0 hmr
        have ex60 : xs[60]? = some xs[60] := List.getElem?_eq_getElem (by omega)
        obtain ⟨ra, r', ea, er', hra⟩ := hx 60 _ ex60
        rw [er] at er'
        cases er'
        rw [ea] at ex60
        refine ⟨_, rfl, _, rfl, L, _, 60, _, rfl, rfl, SqL.of hL, atI_nat (j := 60) ex60, ra, _, 0, _, rfl, rfl, SqT.of hra, atI_nat (j := 0) rfl, (by show 3 ≤ sizeLine; decide), fun pr hpr => ?_⟩
        refine ans "full" v _ pr ?_ (vscal _ hmr) s2 hpr
        unfold faultT
        have ek : keysF (rowsM tq.rs) = v :: ((rowsM tq.rs).drop 61).map headV := by
          unfold keysF
          have ed : (rowsM tq.rs).drop 60 = (v :: vs) :: (rowsM tq.rs).drop 61 := by
            have := List.drop_eq_getElem_cons h60
            rw [this]
            have e2 : (rowsM tq.rs)[60] = v :: vs := by
              have := List.getElem?_eq_getElem h60
              rw [er] at this
              exact (Option.some.inj this).symm
            rw [e2]
          rw [ed]; rfl
        rw [ek]
      have kF : keysF (rowsM tq.rs) = [] := by
        unfold keysF
        rw [List.drop_eq_nil_of_le (by omega)]; rfl
      have D2 := (B.ds p hp).mono (S1.trans s2)
      -- check
      refine ⟨_, rfl, L, rfl, ⟨_, SqL.of hL⟩, for_it walk_list (fun j σ H' => ∃ v5, σ = [some (.ref S), some (.ref T), some (.str p.2.n), some (.ref p.1.d), some (.ref L), v5, v6] ∧ Same H2 H' ∧ ∀ y ∈ (rowsM tq.rs).take j, badC p.2 y = false) ⟨v5, rfl, Same.refl _, (by intro y h; cases h)⟩ (fun i σ H' _ ⟨_, _, e, _⟩ => SqL.of (e _ _ hL)) ?_ ?_⟩
      · rintro j x σ H3 H3' hj ⟨v5, rfl, s3, ab⟩ ⟨rfl, ex⟩
        obtain ⟨ra, r, rfl, hr1, hr2⟩ := hx _ _ ex
        have hmr := List.mem_of_getElem? hr1
        refine ⟨_, rfl, _, rfl, p.1, p.2, ra, r, rowsM tq.rs, frOf s, rfl, D2.mono s3, ok, s3 _ _ hr2, hmr, F, fun H4 s4 => ⟨_, rfl, ?_⟩⟩
        refine ite2 (fun hb => ?_) (fun hb => ⟨_, rfl, s3.trans s4, take_step hr1 ab (Bool.eq_false_iff.mpr hb)⟩)
        obtain ⟨v, vs, rfl⟩ := F.ne ok.l0 hmr
        have s34 := s3.trans s4
        refine ⟨_, rfl, _, rfl, ra, _, 0, _, rfl, rfl, SqT.of (s34 _ _ hr2), atI_nat (j := 0) rfl, (by show 3 ≤ sizeLine; decide), fun pr hpr => ?_⟩
        refine ans "check" v _ pr ?_ (vscal _ hmr) (s2.trans s34) hpr
        obtain ⟨rest, e⟩ := first_filter hr1 hb ab
        unfold faultT keysC
        rw [kF, e]
        rfl
      rintro σ H3 ⟨v5, rfl, s3, ab⟩
      rw [lx, List.take_length] at ab
      have kC : keysC p.2 (rowsM tq.rs) = [] := by unfold keysC; rw [none_filter ab]; rfl
      have hL3 := s3 _ _ hL
      -- unique
      refine ⟨_, rfl, L, _, rfl, .inl (SqL.of hL3), _, rfl, (by omega), (by omega), for_range (lo := 0) (n := xs.length) (fun j σ H' => ∃ v6, σ = [some (.ref S), some (.ref T), some (.str p.2.n), some (.ref p.1.d), some (.ref L), v5, v6] ∧ Same H2 H' ∧ ∀ k ∈ List.range j, badU p.2 ((rowsM tq.rs).take k) ((rowsM tq.rs).getD k []) = false) ⟨v6, rfl, s3, (by intro k h; simp at h)⟩ ?_ ?_⟩
      · rintro j σ H4 hj ⟨v6, rfl, s4, ac⟩
        have exj : xs[j]? = some xs[j] := List.getElem?_eq_getElem hj
        obtain ⟨ra, r, exa, hr1, hr2⟩ := hx _ _ exj
        rw [exa] at exj
        have hmr := List.mem_of_getElem? hr1
        have er : (rowsM tq.rs).getD j [] = r := by rw [List.getD_eq_getElem?_getD, hr1]; rfl
        have hL4 := s4 _ _ hL
        refine ⟨_, rfl, _, rfl, _, rfl, _, rfl, L, _, rfl, SqL.of hL4, fun E hE => ?_⟩
        have e5 := same_new hE (.lst (cutV xs none (some (0 + (j : Int)))))
        have ecut : cutV xs none (some (0 + (j : Int))) = xs.take j := by
          have : (0 + (j : Int)) = ((j : Nat) : Int) := by omega
          rw [this]; exact cut_front xs j (by omega)
        have s45 := s4.trans e5
        have R5 : RowsAt (upd H4 E (.lst (cutV xs none (some (0 + (j : Int)))))) E ((rowsM tq.rs).take j) := by
          obtain ⟨as, a1, a2, a3⟩ := R2
          rw [hL] at a1
          cases a1
          refine ⟨as.take j, by rw [upd_same, ecut, List.map_take], by rw [List.length_take, List.length_take, a2], fun i a rr h1 h2 => ?_⟩
          have hij : i < j := by
            have := (List.getElem?_eq_some_iff.mp h1).1
            rw [List.length_take] at this
            omega
          rw [List.getElem?_take, if_pos hij] at h1 h2
          exact s45 _ _ (a3 i a rr h1 h2)
        refine ⟨_, rfl, _, rfl, L, _, _, _, rfl, rfl, SqL.of (e5 _ _ hL4), at_ofN (j := j) (by omega) exj, p.1, p.2, ra, E, r, (rowsM tq.rs).take j, rowsM tq.rs, frOf s, rfl, D2.mono s45, ok, s45 _ _ hr2, hmr, fun x hx => List.mem_of_mem_take hx, F, R5, fun H6 s6 => ⟨_, rfl, ?_⟩⟩
        have s46 := s45.trans s6
        refine ite2 (fun hb => ?_) (fun hb => ⟨_, rfl, s46, fun k hk => ?_⟩)
        · obtain ⟨v, vs, rfl⟩ := F.ne ok.l0 hmr
          refine ⟨_, rfl, _, rfl, _, rfl, L, _, _, _, rfl, rfl, SqL.of (s46 _ _ hL), at_ofN (j := j) (by omega) exj, ra, _, 0, _, rfl, rfl, SqT.of (s46 _ _ hr2), atI_nat (j := 0) rfl, (by show 3 ≤ sizeLine; decide), fun pr hpr => ?_⟩
          refine ans "unique" v _ pr ?_ (vscal _ hmr) (s2.trans s46) hpr
          have hjr : j < (rowsM tq.rs).length := by omega
          have eri : (List.range (rowsM tq.rs).length)[j]? = some j := by rw [List.getElem?_range hjr]
          obtain ⟨rest, e⟩ := first_filter (P := fun k => badU p.2 ((rowsM tq.rs).take k) ((rowsM tq.rs).getD k [])) eri (by rw [er]; exact hb) (fun y hy => by
            rw [List.take_range, Nat.min_eq_left (by omega)] at hy
            exact ac y hy)
          unfold faultT
          rw [kF, kC]
          unfold keysU
          rw [e, List.map_cons, er]
          rfl
        · rw [List.range_succ] at hk
          rcases List.mem_append.mp hk with hk | hk
          · exact ac k hk
          · rw [List.mem_singleton.mp hk, er]
            exact Bool.eq_false_iff.mpr hb
      rintro σ H4 ⟨v6, rfl, s4, ac⟩
      rw [lx] at ac
      have kU : keysU p.2 (rowsM tq.rs) = [] := by unfold keysU; rw [none_filter ac]; rfl
      have hL4 := s4 _ _ hL
      -- references
      refine ⟨_, rfl, L, rfl, ⟨_, SqL.of hL4⟩, for_it walk_list (fun j σ H' => ∃ v5, σ = [some (.ref S), some (.ref T), some (.str p.2.n), some (.ref p.1.d), some (.ref L), v5, v6] ∧ Same H2 H' ∧ ∀ y ∈ (rowsM tq.rs).take j, badR (stKs st) p.2 y = false) ⟨v5, rfl, s4, (by intro y h; cases h)⟩ (fun i σ H' _ ⟨_, _, e, _⟩ => SqL.of (e _ _ hL)) ?_ ?_⟩
      · rintro j x σ H5 H5' hj ⟨v5, rfl, s5, ad⟩ ⟨rfl, ex⟩
        obtain ⟨ra, r, rfl, hr1, hr2⟩ := hx _ _ ex
        have hmr := List.mem_of_getElem? hr1
        refine ⟨_, rfl, _, rfl, _, rfl, S, s, T, st, p, ra, r, rowsM tq.rs, rfl, B.mono (S1.trans (s2.trans s5)), hp, s5 _ _ hr2, hmr, F, fun H6 s6 => ⟨_, rfl, ?_⟩⟩
        refine ite2 (fun hb => ?_) (fun hb => ⟨_, rfl, s5.trans s6, take_step hr1 ad (Bool.eq_false_iff.mpr hb)⟩)
        obtain ⟨v, vs, rfl⟩ := F.ne ok.l0 hmr
        have s56 := s5.trans s6
        refine ⟨_, rfl, _, rfl, ra, _, 0, _, rfl, rfl, SqT.of (s56 _ _ hr2), atI_nat (j := 0) rfl, (by show 3 ≤ sizeLine; decide), fun pr hpr => ?_⟩
        refine ans "reference" v _ pr ?_ (vscal _ hmr) (s2.trans s56) hpr
        obtain ⟨rest, e⟩ := first_filter hr1 hb ad
        unfold faultT
        rw [kF, kC, kU]
        unfold keysR
        rw [e]
        rfl
      rintro σ H5 ⟨v5, rfl, s5, ad⟩
      rw [lx, List.take_length] at ad
      have kR : keysR (stKs st) p.2 (rowsM tq.rs) = [] := by unfold keysR; rw [none_filter ad]; rfl
      have fN : faultN s st p.2.n = none := by
        rw [hN]
        unfold faultT
        rw [kF, kC, kU, kR]
        rfl
      exact ⟨_, _, _, _, _, rfl, s1.trans (s2.trans s5), findSome_step ey no fN⟩
    · rintro σ H1 ⟨v2, v3, v4, v5, v6, rfl, s1, no⟩
      rw [List.length_map, List.take_length] at no
      have em : faultM s st = none := by unfold faultM; rw [← ey']; exact no
      rw [em] at q
      exact q .non H1 rfl (e1.trans s1))
theorem ok_law {f : Addr} {fd : FuncData} (k : Kn K mg "law" s_law ["script"] f fd) (z : Z mg)
    {g_law_tape : Addr} {gd_law_tape : FuncData} (c_law_tape : Cal P w K mg base 1 "_law_tape" ["script"] (spTape K) g_law_tape gd_law_tape)
    {g_law_schema : Addr} {gd_law_schema : FuncData} (c_law_schema : Cal P w K mg base 8 "_law_schema" ["tape", "least", "most"] (spSchema) g_law_schema gd_law_schema)
    {g_law_state : Addr} {gd_law_state : FuncData} (c_law_state : Cal P w K mg base 7 "_law_state" ["tape", "schema", "most"] (spState) g_law_state gd_law_state)
    {g_law_take : Addr} {gd_law_take : FuncData} (c_law_take : Cal P w K mg base 1 "_law_take" ["tape", "many"] (spTake) g_law_take gd_law_take)
    {g_law_fill : Addr} {gd_law_fill : FuncData} (c_law_fill : Cal P w K mg base 6 "_law_fill" ["tape", "schema", "state"] (spFill) g_law_fill gd_law_fill)
    {g_law_copy : Addr} {gd_law_copy : FuncData} (c_law_copy : Cal P w K mg base 9 "_law_copy" ["thing"] (spCopyG 9) g_law_copy gd_law_copy)
    {g_first_fault : Addr} {gd_first_fault : FuncData} (c_first_fault : Cal P w K mg base 6 "first_fault" ["schema", "state"] (spFault) g_first_fault gd_first_fault)
    {g_law_same : Addr} {gd_law_same : FuncData} (c_law_same : Cal P w K mg base 18 "_law_same" ["actual", "expected"] (spSameG 9) g_law_same gd_law_same)
    {g_law_fault : Addr} {gd_law_fault : FuncData} (c_law_fault : Cal P w K mg base 5 "_law_fault" ["schema", "state"] (spFault) g_law_fault gd_law_fault) :
    Cal P w K mg base 19 "law" ["script"] (spLaw K) f fd := k.cal (by
  refine k.F.ok sc_law (fun vs H Q E h => ?_) (fun cdv A outer s H vs Q E hr h => ?_)
  · obtain ⟨a, ns, rfl, _⟩ := h; rfl
  · obtain ⟨a, ns, rfl, hS, h63, q⟩ := h
    have hu := hu_of hr
    refine ⟨_, (pss_cons (ps_set (i := 1) sc_law.nd rfl (Or.inl rfl) (pe_call c_law_tape.G (hr.mono (by decide)) (by rfl) c_law_tape.m c_law_tape.kp c_law_tape.b .nil pass0 (pa_cons (pv 0) pa_nil)))
        (pss_cons (ps_set (i := 2) sc_law.nd rfl (Or.inl rfl) (pe_call c_law_schema.G (hr.mono (by decide)) (by rfl) c_law_schema.m c_law_schema.kp c_law_schema.b .nil pass0 (pa_cons (pv 1) (pa_cons pe_int (pa_cons pe_int pa_nil)))))
        (pss_cons (ps_set (i := 3) sc_law.nd rfl (Or.inl rfl) (pe_call c_law_state.G (hr.mono (by decide)) (by rfl) c_law_state.m c_law_state.kp c_law_state.b .nil pass0 (pa_cons (pv 1) (pa_cons (pv 2) (pa_cons pe_int pa_nil)))))
        (pss_cut (ps_if (pt_cmpR op_eq (pe_call c_law_take.G (hr.mono (by decide)) (by rfl) c_law_take.m c_law_take.kp c_law_take.b .nil pass0 (pa_cons (pv 1) (pa_cons pe_int pa_nil))) pe_int (nomark _)) (pss_one (ps_expr (pe_call c_law_fill.G (hr.mono (by decide)) (by rfl) c_law_fill.m c_law_fill.kp c_law_fill.b .nil pass0 (pa_cons (pv 1) (pa_cons (pv 2) (pa_cons (pv 3) pa_nil)))))) pss_nil)
        (pss_cons (ps_set (i := 4) sc_law.nd rfl (Or.inl rfl) (pe_call c_law_copy.G (hr.mono (by decide)) (by rfl) c_law_copy.m c_law_copy.kp c_law_copy.b .nil pass0 (pa_cons (pv 3) pa_nil)))
        (pss_cons (ps_set (i := 5) sc_law.nd rfl (Or.inl rfl) (pe_call c_first_fault.G (hr.mono (by decide)) (by rfl) c_first_fault.m c_first_fault.kp c_first_fault.b .nil pass0 (pa_cons (pv 2) (pa_cons (pv 3) pa_nil))))
        (pss_one (ps_ret (pe_and (pe_call c_law_same.G (hr.mono (by decide)) (by rfl) c_law_same.m c_law_same.kp c_law_same.b .nil pass0 (pa_cons (pv 5) (pa_cons (pe_call c_law_fault.G (hr.mono (by decide)) (by rfl) c_law_fault.m c_law_fault.kp c_law_fault.b .nil pass0 (pa_cons (pv 2) (pa_cons (pv 3) pa_nil))) pa_nil))) (pe_one (pe_call c_law_same.G (hr.mono (by decide)) (by rfl) c_law_same.m c_law_same.kp c_law_same.b .nil pass0 (pa_cons (pv 3) (pa_cons (pv 4) pa_nil))))))))))))), ?_⟩
    refine ⟨_, rfl, a, ns, rfl, hS, h63, fun t c cs H1 T1 s1 _ => ?_⟩
    refine ⟨_, rfl, t, c, cs, 1, 3, rfl, T1, by decide, by decide, by decide, fun S s H2 A ok ls0 ls5 T2 s2 => ?_⟩
    have l3 : s.length ≤ 3 := by omega
    refine ⟨_, rfl, _, rfl, t, c, S, cs, s, 6, rfl, T2, A, ok, by omega, by decide, by decide, fun T st H3 B3 fit nd new T3 s3 => ?_⟩
    have A3 := A.monoX T2 s3
    have tT : t ∉ stD T st := fun h => by
      have := new t h
      obtain ⟨_, _, _, _, e, _⟩ := T2.dk
      rw [e] at this; cases this
    have ndt : (t :: stD T st).Nodup := List.nodup_cons.mpr ⟨tT, nd⟩
    have sep : ∀ b ∈ stD T st, b ≠ S ∧ ∀ p ∈ s, p.1.d ≠ b := fun b hb => ⟨(fun e => by have := new b hb; rw [e, A.sk] at this; cases this), (fun p hp e => by have := new b hb; rw [← e, (A.ds p hp).dk] at this; cases this)⟩
    refine ⟨fun σ H' => ∃ st' : List TS, σ = [some (.ref a), some (.ref t), some (.ref S), some (.ref T), none, none] ∧ StAt H' T st' ∧ StFit s st' 80 ∧ (stD T st').Nodup ∧ SchAt H' S s t c, ?_, ?_⟩
    · refine ⟨_, rfl, t, c, cs, 8, rfl, T3, by decide, by decide +kernel, fun d H4 d0 d1 T4 s4 => ⟨rfl, _, rfl, ?_⟩⟩
      have A4 := A3.monoX T3 s4
      have kt := KeepT.ofX T3 s4
      have B4 : StAt H4 T st := ⟨s4 _ _ B3.sk (fun e => tT (by rw [← e]; exact List.mem_cons_self)), fun x hx => (B3.ds x hx).mono kt (fun o h => s4 _ _ h (fun e => tT (by rw [← e]; exact List.mem_cons_of_mem _ (List.mem_map.mpr ⟨x, hx, rfl⟩)))), B3.nm⟩
      refine ifD (fun _ => ?_) (fun _ => ⟨st, rfl, B4, ⟨fit.f, fun x hx => by have := fit.l x hx; omega, fit.n, fit.e⟩, nd, A4⟩)
      refine ⟨_, rfl, _, rfl, _, rfl, t, c, S, T, cs, s, st, rfl, T4, A4, ok, by omega, by omega, B4, fit, ndt, fun st' H5 B5 f5 ed T5 se => ?_⟩
      refine ⟨st', rfl, B5, f5, by rw [ed]; exact nd, ?_⟩
      have kd : ∀ {b : Addr} {kvs : List (Key × V)}, H4 b = some (.dK kvs) → (b = S ∨ ∃ p ∈ s, b = p.1.d) → H5 b = some (.dK kvs) := fun {b kvs} h hb => se _ _ h fun hm => by
        rcases List.mem_cons.mp hm with e | hm
        · rcases hb with rfl | ⟨p, hp, rfl⟩
          · exact A.tS.1 e.symm
          · exact A.tS.2.1 p hp e
        · rcases hb with rfl | ⟨p, hp, rfl⟩
          · exact (sep _ hm).1 rfl
          · exact (sep _ hm).2 p hp rfl
      have kt5 : KeepT H4 H5 := fun b xs h => se _ _ h fun hm => by
        rcases List.mem_cons.mp hm with e | hm
        · obtain ⟨_, _, _, _, e', _⟩ := T4.dk
          rw [e, e'] at h; cases h
        · rcases List.mem_cons.mp hm with e | hm
          · rw [e, B4.sk] at h; cases h
          · obtain ⟨x, hx, e⟩ := List.mem_map.mp hm
            rw [← e, (B4.ds x hx).dk] at h; cases h
      have kl : ∀ {b : Addr} {xs : List V}, H4 b = some (.lst xs) → H5 b = some (.lst xs) := fun {b xs} h => se _ _ h fun hm => by
        rcases List.mem_cons.mp hm with e | hm
        · obtain ⟨_, _, _, _, e', _⟩ := T4.dk
          rw [e, e'] at h; cases h
        · rcases List.mem_cons.mp hm with e | hm
          · rw [e, B4.sk] at h; cases h
          · obtain ⟨x, hx, e⟩ := List.mem_map.mp hm
            rw [← e, (B4.ds x hx).dk] at h; cases h
      refine ⟨kd A4.sk (.inl rfl), fun p hp => (A4.ds p hp).frame kt5 (fun o h => ?_) (fun b hb o h => ?_), A4.nm, A4.dn, A4.ln⟩
      · rw [(A4.ds p hp).dk] at h
        cases h
        exact kd (A4.ds p hp).dk (.inr ⟨p, hp, rfl⟩)
      · obtain ⟨xs, g⟩ := (A4.ds p hp).isL b hb
        rw [g] at h
        cases h
        exact kl g
    · rintro σ H5 ⟨st', rfl, B5, f5, nd5, A5⟩
      have tf : ∀ x ∈ st', ∃ cols : List Col, cols.length ≤ 50 ∧ TabFit cols x.rs := fun x hx => by
        obtain ⟨p, hp, e⟩ := sch_in (f5.n x hx)
        obtain ⟨y, hy, ey, fy⟩ := f5.f p hp
        have : x = y := st_one B5.nm hx hy (by rw [ey, e])
        subst this
        have := (ok p hp).l5
        have := f5.l x hx
        exact ⟨p.2.cols, by omega, by omega, fy⟩
      have ne : ∀ x ∈ st', x.d ≠ T := fun x hx e => (List.nodup_cons.mp nd5).1 (List.mem_map.mpr ⟨x, hx, e⟩)
      have g5 := B5.g tf (by have := f5.e; omega) ne
      refine ⟨_, rfl, _, _, _, rfl, g5, Nat.lt_of_le_of_lt (st_dep _) (by decide), fun BB D' H6 g6 s6 f6 => ?_⟩
      have DBx : DB H5 S s T st' := ⟨A5.sk, A5.ds, A5.nm, ok, by omega, B5, fun p hp => by
        obtain ⟨y, hy, ey, fy⟩ := f5.f p hp
        have := f5.l y hy
        exact ⟨y, hy, ey, by omega, fy⟩⟩
      refine ⟨_, rfl, _, rfl, S, s, T, st', rfl, DBx.mono s6, fun v H7 hv s7 => ?_⟩
      refine ⟨_, rfl, _, rfl, _, rfl, S, s, T, st', rfl, DBx.mono (s6.trans s7), fun w H8 hw s8 => ?_⟩
      have S8 := s6.trans (s7.trans s8)
      have key : ∃ g : G, Gp H8 v g [] ∧ Gp H8 w g [] ∧ g.dep < 9 := by
        cases e : faultM s st' with
        | none =>
          rw [e] at hv hw
          have hv : v = .non := hv
          have hw : w = .non := hw
          subst hv
          subst hw
          exact ⟨.s .non, .s rfl, .s rfl, by show 0 < 9; decide⟩
        | some f =>
          obtain ⟨cn, n, k⟩ := f
          rw [e] at hv hw
          obtain ⟨p1, rfl, h1, hk⟩ := hv
          obtain ⟨p2, rfl, h2, _⟩ := hw
          have sc : ∀ v ∈ [V.str cn, V.str n, k], isScal v = true := fun v hv => by
            simp only [List.mem_cons, List.not_mem_nil, or_false] at hv
            rcases hv with rfl | rfl | rfl
            · rfl
            · rfl
            · exact hk
          refine ⟨.t ([V.str cn, V.str n, k].map G.s), .t (s8 _ _ h1) (by show 3 ≤ 1000; decide) (scals_L sc), .t h2 (by show 3 ≤ 1000; decide) (scals_L sc), ?_⟩
          show max 0 (max 0 (max 0 0)) + 1 < 9
          decide
      obtain ⟨g, k1, k2, k3⟩ := key
      refine ⟨_, _, g, [], [], rfl, k1, k2, (by intro x h; cases h), k3, _, rfl, ?_⟩
      exact ⟨_, rfl, _, rfl, _, _, _, _, _, rfl, g5.mono S8, g6.mono (s7.trans s8), fun x hx hy => g5.there x hx (f6 x hy), Nat.lt_of_le_of_lt (st_dep _) (by decide), q _⟩)
end
end Lt
namespace Lt
open PySem L2 TL
open C8 (pss_cut)
theorem all_mk {l : PySem.W.OpenLaw} {w : World} {K : PySem.W.Frag} {h : Heap} {mg : Str → Option Value} {fa : Addr} (X : K.In h) (G : h.Ns mainGlobals mg) (hfa : mg "law" = some (.ref fa))
    {f_law_tape f_law_take f_law_name f_law_table f_law_columns f_law_names f_law_integer f_law_char f_law_text f_law_value f_law_clause f_law_condition f_law_limits f_law_schema f_law_rest f_law_rows f_law_state f_law_fill f_law_copy f_rows f_column_names f_leads_nowhere f_lost_keys f_repeated_keys f_compares f_clause_holds f_holds f_unchecked_keys f_excess_keys f_table_fault f_first_fault f_law_is_integer f_law_same_items f_law_same f_law_sorted_rows f_law_compares f_law_clause_holds f_law_holds f_law_breaks_check f_law_breaks_unique f_law_breaks_reference f_law_fault f_law : Addr} {od_law_tape an_law_tape od_law_take an_law_take od_law_name an_law_name od_law_table an_law_table od_law_columns an_law_columns od_law_names an_law_names od_law_integer an_law_integer od_law_char an_law_char od_law_text an_law_text od_law_value an_law_value od_law_clause an_law_clause od_law_condition an_law_condition od_law_limits an_law_limits od_law_schema an_law_schema od_law_rest an_law_rest od_law_rows an_law_rows od_law_state an_law_state od_law_fill an_law_fill od_law_copy an_law_copy od_rows an_rows od_column_names an_column_names od_leads_nowhere an_leads_nowhere od_lost_keys an_lost_keys od_repeated_keys an_repeated_keys od_compares an_compares od_clause_holds an_clause_holds od_holds an_holds od_unchecked_keys an_unchecked_keys od_excess_keys an_excess_keys od_table_fault an_table_fault od_first_fault an_first_fault od_law_is_integer an_law_is_integer od_law_same_items an_law_same_items od_law_same an_law_same od_law_sorted_rows an_law_sorted_rows od_law_compares an_law_compares od_law_clause_holds an_law_clause_holds od_law_holds an_law_holds od_law_breaks_check an_law_breaks_check od_law_breaks_unique an_law_breaks_unique od_law_breaks_reference an_law_breaks_reference od_law_fault an_law_fault od_law an_law : Option Addr} {sl_law_tape sl_law_take sl_law_name sl_law_table sl_law_columns sl_law_names sl_law_integer sl_law_char sl_law_text sl_law_value sl_law_clause sl_law_condition sl_law_limits sl_law_schema sl_law_rest sl_law_rows sl_law_state sl_law_fill sl_law_copy sl_rows sl_column_names sl_leads_nowhere sl_lost_keys sl_repeated_keys sl_compares sl_clause_holds sl_holds sl_unchecked_keys sl_excess_keys sl_table_fault sl_first_fault sl_law_is_integer sl_law_same_items sl_law_same sl_law_sorted_rows sl_law_compares sl_law_clause_holds sl_law_holds sl_law_breaks_check sl_law_breaks_unique sl_law_breaks_reference sl_law_fault sl_law : Array (Option Value)} {oc_law_tape kV_law_tape dc_law_tape pm_law_tape cd_law_tape ct_law_tape oc_law_take kV_law_take dc_law_take pm_law_take cd_law_take ct_law_take oc_law_name kV_law_name dc_law_name pm_law_name cd_law_name ct_law_name oc_law_table kV_law_table dc_law_table pm_law_table cd_law_table ct_law_table oc_law_columns kV_law_columns dc_law_columns pm_law_columns cd_law_columns ct_law_columns oc_law_names kV_law_names dc_law_names pm_law_names cd_law_names ct_law_names oc_law_integer kV_law_integer dc_law_integer pm_law_integer cd_law_integer ct_law_integer oc_law_char kV_law_char dc_law_char pm_law_char cd_law_char ct_law_char oc_law_text kV_law_text dc_law_text pm_law_text cd_law_text ct_law_text oc_law_value kV_law_value dc_law_value pm_law_value cd_law_value ct_law_value oc_law_clause kV_law_clause dc_law_clause pm_law_clause cd_law_clause ct_law_clause oc_law_condition kV_law_condition dc_law_condition pm_law_condition cd_law_condition ct_law_condition oc_law_limits kV_law_limits dc_law_limits pm_law_limits cd_law_limits ct_law_limits oc_law_schema kV_law_schema dc_law_schema pm_law_schema cd_law_schema ct_law_schema oc_law_rest kV_law_rest dc_law_rest pm_law_rest cd_law_rest ct_law_rest oc_law_rows kV_law_rows dc_law_rows pm_law_rows cd_law_rows ct_law_rows oc_law_state kV_law_state dc_law_state pm_law_state cd_law_state ct_law_state oc_law_fill kV_law_fill dc_law_fill pm_law_fill cd_law_fill ct_law_fill oc_law_copy kV_law_copy dc_law_copy pm_law_copy cd_law_copy ct_law_copy oc_rows kV_rows dc_rows pm_rows cd_rows ct_rows oc_column_names kV_column_names dc_column_names pm_column_names cd_column_names ct_column_names oc_leads_nowhere kV_leads_nowhere dc_leads_nowhere pm_leads_nowhere cd_leads_nowhere ct_leads_nowhere oc_lost_keys kV_lost_keys dc_lost_keys pm_lost_keys cd_lost_keys ct_lost_keys oc_repeated_keys kV_repeated_keys dc_repeated_keys pm_repeated_keys cd_repeated_keys ct_repeated_keys oc_compares kV_compares dc_compares pm_compares cd_compares ct_compares oc_clause_holds kV_clause_holds dc_clause_holds pm_clause_holds cd_clause_holds ct_clause_holds oc_holds kV_holds dc_holds pm_holds cd_holds ct_holds oc_unchecked_keys kV_unchecked_keys dc_unchecked_keys pm_unchecked_keys cd_unchecked_keys ct_unchecked_keys oc_excess_keys kV_excess_keys dc_excess_keys pm_excess_keys cd_excess_keys ct_excess_keys oc_table_fault kV_table_fault dc_table_fault pm_table_fault cd_table_fault ct_table_fault oc_first_fault kV_first_fault dc_first_fault pm_first_fault cd_first_fault ct_first_fault oc_law_is_integer kV_law_is_integer dc_law_is_integer pm_law_is_integer cd_law_is_integer ct_law_is_integer oc_law_same_items kV_law_same_items dc_law_same_items pm_law_same_items cd_law_same_items ct_law_same_items oc_law_same kV_law_same dc_law_same pm_law_same cd_law_same ct_law_same oc_law_sorted_rows kV_law_sorted_rows dc_law_sorted_rows pm_law_sorted_rows cd_law_sorted_rows ct_law_sorted_rows oc_law_compares kV_law_compares dc_law_compares pm_law_compares cd_law_compares ct_law_compares oc_law_clause_holds kV_law_clause_holds dc_law_clause_holds pm_law_clause_holds cd_law_clause_holds ct_law_clause_holds oc_law_holds kV_law_holds dc_law_holds pm_law_holds cd_law_holds ct_law_holds oc_law_breaks_check kV_law_breaks_check dc_law_breaks_check pm_law_breaks_check cd_law_breaks_check ct_law_breaks_check oc_law_breaks_unique kV_law_breaks_unique dc_law_breaks_unique pm_law_breaks_unique cd_law_breaks_unique ct_law_breaks_unique oc_law_breaks_reference kV_law_breaks_reference dc_law_breaks_reference pm_law_breaks_reference cd_law_breaks_reference ct_law_breaks_reference oc_law_fault kV_law_fault dc_law_fault pm_law_fault cd_law_fault ct_law_fault oc_law kV_law dc_law pm_law cd_law ct_law : Value}
    {t_MOST_ROWS : Tok}
    (a_law_tape : PySem.W.nsIn K mainGlobals "_law_tape" = some (some (.ref f_law_tape)))
    (l_law_tape : K.lookup f_law_tape = some ⟨oc_law_tape, od_law_tape, .func (PySem.W.fnOf "_law_tape" "_law_tape" (defArgs s_law_tape) (defBody s_law_tape) (defScope s_law_tape) .none kV_law_tape dc_law_tape pm_law_tape an_law_tape cd_law_tape ct_law_tape), sl_law_tape⟩)
    (c_law_tape : PySem.W.codeIn K cd_law_tape "_law_tape" = true)
    (k_law_tape : PySem.W.keepIn K (.ref f_law_tape) = true)
    (a_law_take : PySem.W.nsIn K mainGlobals "_law_take" = some (some (.ref f_law_take)))
    (l_law_take : K.lookup f_law_take = some ⟨oc_law_take, od_law_take, .func (PySem.W.fnOf "_law_take" "_law_take" (defArgs s_law_take) (defBody s_law_take) (defScope s_law_take) .none kV_law_take dc_law_take pm_law_take an_law_take cd_law_take ct_law_take), sl_law_take⟩)
    (c_law_take : PySem.W.codeIn K cd_law_take "_law_take" = true)
    (k_law_take : PySem.W.keepIn K (.ref f_law_take) = true)
    (a_law_name : PySem.W.nsIn K mainGlobals "_law_name" = some (some (.ref f_law_name)))
    (l_law_name : K.lookup f_law_name = some ⟨oc_law_name, od_law_name, .func (PySem.W.fnOf "_law_name" "_law_name" (defArgs s_law_name) (defBody s_law_name) (defScope s_law_name) .none kV_law_name dc_law_name pm_law_name an_law_name cd_law_name ct_law_name), sl_law_name⟩)
    (c_law_name : PySem.W.codeIn K cd_law_name "_law_name" = true)
    (k_law_name : PySem.W.keepIn K (.ref f_law_name) = true)
    (a_law_table : PySem.W.nsIn K mainGlobals "_law_table" = some (some (.ref f_law_table)))
    (l_law_table : K.lookup f_law_table = some ⟨oc_law_table, od_law_table, .func (PySem.W.fnOf "_law_table" "_law_table" (defArgs s_law_table) (defBody s_law_table) (defScope s_law_table) .none kV_law_table dc_law_table pm_law_table an_law_table cd_law_table ct_law_table), sl_law_table⟩)
    (c_law_table : PySem.W.codeIn K cd_law_table "_law_table" = true)
    (k_law_table : PySem.W.keepIn K (.ref f_law_table) = true)
    (a_law_columns : PySem.W.nsIn K mainGlobals "_law_columns" = some (some (.ref f_law_columns)))
    (l_law_columns : K.lookup f_law_columns = some ⟨oc_law_columns, od_law_columns, .func (PySem.W.fnOf "_law_columns" "_law_columns" (defArgs s_law_columns) (defBody s_law_columns) (defScope s_law_columns) .none kV_law_columns dc_law_columns pm_law_columns an_law_columns cd_law_columns ct_law_columns), sl_law_columns⟩)
    (c_law_columns : PySem.W.codeIn K cd_law_columns "_law_columns" = true)
    (k_law_columns : PySem.W.keepIn K (.ref f_law_columns) = true)
    (a_law_names : PySem.W.nsIn K mainGlobals "_law_names" = some (some (.ref f_law_names)))
    (l_law_names : K.lookup f_law_names = some ⟨oc_law_names, od_law_names, .func (PySem.W.fnOf "_law_names" "_law_names" (defArgs s_law_names) (defBody s_law_names) (defScope s_law_names) .none kV_law_names dc_law_names pm_law_names an_law_names cd_law_names ct_law_names), sl_law_names⟩)
    (c_law_names : PySem.W.codeIn K cd_law_names "_law_names" = true)
    (k_law_names : PySem.W.keepIn K (.ref f_law_names) = true)
    (a_law_integer : PySem.W.nsIn K mainGlobals "_law_integer" = some (some (.ref f_law_integer)))
    (l_law_integer : K.lookup f_law_integer = some ⟨oc_law_integer, od_law_integer, .func (PySem.W.fnOf "_law_integer" "_law_integer" (defArgs s_law_integer) (defBody s_law_integer) (defScope s_law_integer) .none kV_law_integer dc_law_integer pm_law_integer an_law_integer cd_law_integer ct_law_integer), sl_law_integer⟩)
    (c_law_integer : PySem.W.codeIn K cd_law_integer "_law_integer" = true)
    (k_law_integer : PySem.W.keepIn K (.ref f_law_integer) = true)
    (a_law_char : PySem.W.nsIn K mainGlobals "_law_char" = some (some (.ref f_law_char)))
    (l_law_char : K.lookup f_law_char = some ⟨oc_law_char, od_law_char, .func (PySem.W.fnOf "_law_char" "_law_char" (defArgs s_law_char) (defBody s_law_char) (defScope s_law_char) .none kV_law_char dc_law_char pm_law_char an_law_char cd_law_char ct_law_char), sl_law_char⟩)
    (c_law_char : PySem.W.codeIn K cd_law_char "_law_char" = true)
    (k_law_char : PySem.W.keepIn K (.ref f_law_char) = true)
    (a_law_text : PySem.W.nsIn K mainGlobals "_law_text" = some (some (.ref f_law_text)))
    (l_law_text : K.lookup f_law_text = some ⟨oc_law_text, od_law_text, .func (PySem.W.fnOf "_law_text" "_law_text" (defArgs s_law_text) (defBody s_law_text) (defScope s_law_text) .none kV_law_text dc_law_text pm_law_text an_law_text cd_law_text ct_law_text), sl_law_text⟩)
    (c_law_text : PySem.W.codeIn K cd_law_text "_law_text" = true)
    (k_law_text : PySem.W.keepIn K (.ref f_law_text) = true)
    (a_law_value : PySem.W.nsIn K mainGlobals "_law_value" = some (some (.ref f_law_value)))
    (l_law_value : K.lookup f_law_value = some ⟨oc_law_value, od_law_value, .func (PySem.W.fnOf "_law_value" "_law_value" (defArgs s_law_value) (defBody s_law_value) (defScope s_law_value) .none kV_law_value dc_law_value pm_law_value an_law_value cd_law_value ct_law_value), sl_law_value⟩)
    (c_law_value : PySem.W.codeIn K cd_law_value "_law_value" = true)
    (k_law_value : PySem.W.keepIn K (.ref f_law_value) = true)
    (a_law_clause : PySem.W.nsIn K mainGlobals "_law_clause" = some (some (.ref f_law_clause)))
    (l_law_clause : K.lookup f_law_clause = some ⟨oc_law_clause, od_law_clause, .func (PySem.W.fnOf "_law_clause" "_law_clause" (defArgs s_law_clause) (defBody s_law_clause) (defScope s_law_clause) .none kV_law_clause dc_law_clause pm_law_clause an_law_clause cd_law_clause ct_law_clause), sl_law_clause⟩)
    (c_law_clause : PySem.W.codeIn K cd_law_clause "_law_clause" = true)
    (k_law_clause : PySem.W.keepIn K (.ref f_law_clause) = true)
    (a_law_condition : PySem.W.nsIn K mainGlobals "_law_condition" = some (some (.ref f_law_condition)))
    (l_law_condition : K.lookup f_law_condition = some ⟨oc_law_condition, od_law_condition, .func (PySem.W.fnOf "_law_condition" "_law_condition" (defArgs s_law_condition) (defBody s_law_condition) (defScope s_law_condition) .none kV_law_condition dc_law_condition pm_law_condition an_law_condition cd_law_condition ct_law_condition), sl_law_condition⟩)
    (c_law_condition : PySem.W.codeIn K cd_law_condition "_law_condition" = true)
    (k_law_condition : PySem.W.keepIn K (.ref f_law_condition) = true)
    (a_law_limits : PySem.W.nsIn K mainGlobals "_law_limits" = some (some (.ref f_law_limits)))
    (l_law_limits : K.lookup f_law_limits = some ⟨oc_law_limits, od_law_limits, .func (PySem.W.fnOf "_law_limits" "_law_limits" (defArgs s_law_limits) (defBody s_law_limits) (defScope s_law_limits) .none kV_law_limits dc_law_limits pm_law_limits an_law_limits cd_law_limits ct_law_limits), sl_law_limits⟩)
    (c_law_limits : PySem.W.codeIn K cd_law_limits "_law_limits" = true)
    (k_law_limits : PySem.W.keepIn K (.ref f_law_limits) = true)
    (a_law_schema : PySem.W.nsIn K mainGlobals "_law_schema" = some (some (.ref f_law_schema)))
    (l_law_schema : K.lookup f_law_schema = some ⟨oc_law_schema, od_law_schema, .func (PySem.W.fnOf "_law_schema" "_law_schema" (defArgs s_law_schema) (defBody s_law_schema) (defScope s_law_schema) .none kV_law_schema dc_law_schema pm_law_schema an_law_schema cd_law_schema ct_law_schema), sl_law_schema⟩)
    (c_law_schema : PySem.W.codeIn K cd_law_schema "_law_schema" = true)
    (k_law_schema : PySem.W.keepIn K (.ref f_law_schema) = true)
    (a_law_rest : PySem.W.nsIn K mainGlobals "_law_rest" = some (some (.ref f_law_rest)))
    (l_law_rest : K.lookup f_law_rest = some ⟨oc_law_rest, od_law_rest, .func (PySem.W.fnOf "_law_rest" "_law_rest" (defArgs s_law_rest) (defBody s_law_rest) (defScope s_law_rest) .none kV_law_rest dc_law_rest pm_law_rest an_law_rest cd_law_rest ct_law_rest), sl_law_rest⟩)
    (c_law_rest : PySem.W.codeIn K cd_law_rest "_law_rest" = true)
    (k_law_rest : PySem.W.keepIn K (.ref f_law_rest) = true)
    (a_law_rows : PySem.W.nsIn K mainGlobals "_law_rows" = some (some (.ref f_law_rows)))
    (l_law_rows : K.lookup f_law_rows = some ⟨oc_law_rows, od_law_rows, .func (PySem.W.fnOf "_law_rows" "_law_rows" (defArgs s_law_rows) (defBody s_law_rows) (defScope s_law_rows) .none kV_law_rows dc_law_rows pm_law_rows an_law_rows cd_law_rows ct_law_rows), sl_law_rows⟩)
    (c_law_rows : PySem.W.codeIn K cd_law_rows "_law_rows" = true)
    (k_law_rows : PySem.W.keepIn K (.ref f_law_rows) = true)
    (a_law_state : PySem.W.nsIn K mainGlobals "_law_state" = some (some (.ref f_law_state)))
    (l_law_state : K.lookup f_law_state = some ⟨oc_law_state, od_law_state, .func (PySem.W.fnOf "_law_state" "_law_state" (defArgs s_law_state) (defBody s_law_state) (defScope s_law_state) .none kV_law_state dc_law_state pm_law_state an_law_state cd_law_state ct_law_state), sl_law_state⟩)
    (c_law_state : PySem.W.codeIn K cd_law_state "_law_state" = true)
    (k_law_state : PySem.W.keepIn K (.ref f_law_state) = true)
    (a_law_fill : PySem.W.nsIn K mainGlobals "_law_fill" = some (some (.ref f_law_fill)))
    (l_law_fill : K.lookup f_law_fill = some ⟨oc_law_fill, od_law_fill, .func (PySem.W.fnOf "_law_fill" "_law_fill" (defArgs s_law_fill) (defBody s_law_fill) (defScope s_law_fill) .none kV_law_fill dc_law_fill pm_law_fill an_law_fill cd_law_fill ct_law_fill), sl_law_fill⟩)
    (c_law_fill : PySem.W.codeIn K cd_law_fill "_law_fill" = true)
    (k_law_fill : PySem.W.keepIn K (.ref f_law_fill) = true)
    (a_law_copy : PySem.W.nsIn K mainGlobals "_law_copy" = some (some (.ref f_law_copy)))
    (l_law_copy : K.lookup f_law_copy = some ⟨oc_law_copy, od_law_copy, .func (PySem.W.fnOf "_law_copy" "_law_copy" (defArgs s_law_copy) (defBody s_law_copy) (defScope s_law_copy) .none kV_law_copy dc_law_copy pm_law_copy an_law_copy cd_law_copy ct_law_copy), sl_law_copy⟩)
    (c_law_copy : PySem.W.codeIn K cd_law_copy "_law_copy" = true)
    (k_law_copy : PySem.W.keepIn K (.ref f_law_copy) = true)
    (a_rows : PySem.W.nsIn K mainGlobals "rows" = some (some (.ref f_rows)))
    (l_rows : K.lookup f_rows = some ⟨oc_rows, od_rows, .func (PySem.W.fnOf "rows" "rows" (defArgs s_rows) (defBody s_rows) (defScope s_rows) .none kV_rows dc_rows pm_rows an_rows cd_rows ct_rows), sl_rows⟩)
    (c_rows : PySem.W.codeIn K cd_rows "rows" = true)
    (k_rows : PySem.W.keepIn K (.ref f_rows) = true)
    (a_column_names : PySem.W.nsIn K mainGlobals "column_names" = some (some (.ref f_column_names)))
    (l_column_names : K.lookup f_column_names = some ⟨oc_column_names, od_column_names, .func (PySem.W.fnOf "column_names" "column_names" (defArgs s_column_names) (defBody s_column_names) (defScope s_column_names) .none kV_column_names dc_column_names pm_column_names an_column_names cd_column_names ct_column_names), sl_column_names⟩)
    (c_column_names : PySem.W.codeIn K cd_column_names "column_names" = true)
    (k_column_names : PySem.W.keepIn K (.ref f_column_names) = true)
    (a_leads_nowhere : PySem.W.nsIn K mainGlobals "leads_nowhere" = some (some (.ref f_leads_nowhere)))
    (l_leads_nowhere : K.lookup f_leads_nowhere = some ⟨oc_leads_nowhere, od_leads_nowhere, .func (PySem.W.fnOf "leads_nowhere" "leads_nowhere" (defArgs s_leads_nowhere) (defBody s_leads_nowhere) (defScope s_leads_nowhere) .none kV_leads_nowhere dc_leads_nowhere pm_leads_nowhere an_leads_nowhere cd_leads_nowhere ct_leads_nowhere), sl_leads_nowhere⟩)
    (c_leads_nowhere : PySem.W.codeIn K cd_leads_nowhere "leads_nowhere" = true)
    (k_leads_nowhere : PySem.W.keepIn K (.ref f_leads_nowhere) = true)
    (a_lost_keys : PySem.W.nsIn K mainGlobals "lost_keys" = some (some (.ref f_lost_keys)))
    (l_lost_keys : K.lookup f_lost_keys = some ⟨oc_lost_keys, od_lost_keys, .func (PySem.W.fnOf "lost_keys" "lost_keys" (defArgs s_lost_keys) (defBody s_lost_keys) (defScope s_lost_keys) .none kV_lost_keys dc_lost_keys pm_lost_keys an_lost_keys cd_lost_keys ct_lost_keys), sl_lost_keys⟩)
    (c_lost_keys : PySem.W.codeIn K cd_lost_keys "lost_keys" = true)
    (k_lost_keys : PySem.W.keepIn K (.ref f_lost_keys) = true)
    (a_repeated_keys : PySem.W.nsIn K mainGlobals "repeated_keys" = some (some (.ref f_repeated_keys)))
    (l_repeated_keys : K.lookup f_repeated_keys = some ⟨oc_repeated_keys, od_repeated_keys, .func (PySem.W.fnOf "repeated_keys" "repeated_keys" (defArgs s_repeated_keys) (defBody s_repeated_keys) (defScope s_repeated_keys) .none kV_repeated_keys dc_repeated_keys pm_repeated_keys an_repeated_keys cd_repeated_keys ct_repeated_keys), sl_repeated_keys⟩)
    (c_repeated_keys : PySem.W.codeIn K cd_repeated_keys "repeated_keys" = true)
    (k_repeated_keys : PySem.W.keepIn K (.ref f_repeated_keys) = true)
    (a_compares : PySem.W.nsIn K mainGlobals "compares" = some (some (.ref f_compares)))
    (l_compares : K.lookup f_compares = some ⟨oc_compares, od_compares, .func (PySem.W.fnOf "compares" "compares" (defArgs s_compares) (defBody s_compares) (defScope s_compares) .none kV_compares dc_compares pm_compares an_compares cd_compares ct_compares), sl_compares⟩)
    (c_compares : PySem.W.codeIn K cd_compares "compares" = true)
    (k_compares : PySem.W.keepIn K (.ref f_compares) = true)
    (a_clause_holds : PySem.W.nsIn K mainGlobals "clause_holds" = some (some (.ref f_clause_holds)))
    (l_clause_holds : K.lookup f_clause_holds = some ⟨oc_clause_holds, od_clause_holds, .func (PySem.W.fnOf "clause_holds" "clause_holds" (defArgs s_clause_holds) (defBody s_clause_holds) (defScope s_clause_holds) .none kV_clause_holds dc_clause_holds pm_clause_holds an_clause_holds cd_clause_holds ct_clause_holds), sl_clause_holds⟩)
    (c_clause_holds : PySem.W.codeIn K cd_clause_holds "clause_holds" = true)
    (k_clause_holds : PySem.W.keepIn K (.ref f_clause_holds) = true)
    (a_holds : PySem.W.nsIn K mainGlobals "holds" = some (some (.ref f_holds)))
    (l_holds : K.lookup f_holds = some ⟨oc_holds, od_holds, .func (PySem.W.fnOf "holds" "holds" (defArgs s_holds) (defBody s_holds) (defScope s_holds) .none kV_holds dc_holds pm_holds an_holds cd_holds ct_holds), sl_holds⟩)
    (c_holds : PySem.W.codeIn K cd_holds "holds" = true)
    (k_holds : PySem.W.keepIn K (.ref f_holds) = true)
    (a_unchecked_keys : PySem.W.nsIn K mainGlobals "unchecked_keys" = some (some (.ref f_unchecked_keys)))
    (l_unchecked_keys : K.lookup f_unchecked_keys = some ⟨oc_unchecked_keys, od_unchecked_keys, .func (PySem.W.fnOf "unchecked_keys" "unchecked_keys" (defArgs s_unchecked_keys) (defBody s_unchecked_keys) (defScope s_unchecked_keys) .none kV_unchecked_keys dc_unchecked_keys pm_unchecked_keys an_unchecked_keys cd_unchecked_keys ct_unchecked_keys), sl_unchecked_keys⟩)
    (c_unchecked_keys : PySem.W.codeIn K cd_unchecked_keys "unchecked_keys" = true)
    (k_unchecked_keys : PySem.W.keepIn K (.ref f_unchecked_keys) = true)
    (a_excess_keys : PySem.W.nsIn K mainGlobals "excess_keys" = some (some (.ref f_excess_keys)))
    (l_excess_keys : K.lookup f_excess_keys = some ⟨oc_excess_keys, od_excess_keys, .func (PySem.W.fnOf "excess_keys" "excess_keys" (defArgs s_excess_keys) (defBody s_excess_keys) (defScope s_excess_keys) .none kV_excess_keys dc_excess_keys pm_excess_keys an_excess_keys cd_excess_keys ct_excess_keys), sl_excess_keys⟩)
    (c_excess_keys : PySem.W.codeIn K cd_excess_keys "excess_keys" = true)
    (k_excess_keys : PySem.W.keepIn K (.ref f_excess_keys) = true)
    (a_table_fault : PySem.W.nsIn K mainGlobals "table_fault" = some (some (.ref f_table_fault)))
    (l_table_fault : K.lookup f_table_fault = some ⟨oc_table_fault, od_table_fault, .func (PySem.W.fnOf "table_fault" "table_fault" (defArgs s_table_fault) (defBody s_table_fault) (defScope s_table_fault) .none kV_table_fault dc_table_fault pm_table_fault an_table_fault cd_table_fault ct_table_fault), sl_table_fault⟩)
    (c_table_fault : PySem.W.codeIn K cd_table_fault "table_fault" = true)
    (k_table_fault : PySem.W.keepIn K (.ref f_table_fault) = true)
    (a_first_fault : PySem.W.nsIn K mainGlobals "first_fault" = some (some (.ref f_first_fault)))
    (l_first_fault : K.lookup f_first_fault = some ⟨oc_first_fault, od_first_fault, .func (PySem.W.fnOf "first_fault" "first_fault" (defArgs s_first_fault) (defBody s_first_fault) (defScope s_first_fault) .none kV_first_fault dc_first_fault pm_first_fault an_first_fault cd_first_fault ct_first_fault), sl_first_fault⟩)
    (c_first_fault : PySem.W.codeIn K cd_first_fault "first_fault" = true)
    (k_first_fault : PySem.W.keepIn K (.ref f_first_fault) = true)
    (a_law_is_integer : PySem.W.nsIn K mainGlobals "_law_is_integer" = some (some (.ref f_law_is_integer)))
    (l_law_is_integer : K.lookup f_law_is_integer = some ⟨oc_law_is_integer, od_law_is_integer, .func (PySem.W.fnOf "_law_is_integer" "_law_is_integer" (defArgs s_law_is_integer) (defBody s_law_is_integer) (defScope s_law_is_integer) .none kV_law_is_integer dc_law_is_integer pm_law_is_integer an_law_is_integer cd_law_is_integer ct_law_is_integer), sl_law_is_integer⟩)
    (c_law_is_integer : PySem.W.codeIn K cd_law_is_integer "_law_is_integer" = true)
    (k_law_is_integer : PySem.W.keepIn K (.ref f_law_is_integer) = true)
    (a_law_same_items : PySem.W.nsIn K mainGlobals "_law_same_items" = some (some (.ref f_law_same_items)))
    (l_law_same_items : K.lookup f_law_same_items = some ⟨oc_law_same_items, od_law_same_items, .func (PySem.W.fnOf "_law_same_items" "_law_same_items" (defArgs s_law_same_items) (defBody s_law_same_items) (defScope s_law_same_items) .none kV_law_same_items dc_law_same_items pm_law_same_items an_law_same_items cd_law_same_items ct_law_same_items), sl_law_same_items⟩)
    (c_law_same_items : PySem.W.codeIn K cd_law_same_items "_law_same_items" = true)
    (k_law_same_items : PySem.W.keepIn K (.ref f_law_same_items) = true)
    (a_law_same : PySem.W.nsIn K mainGlobals "_law_same" = some (some (.ref f_law_same)))
    (l_law_same : K.lookup f_law_same = some ⟨oc_law_same, od_law_same, .func (PySem.W.fnOf "_law_same" "_law_same" (defArgs s_law_same) (defBody s_law_same) (defScope s_law_same) .none kV_law_same dc_law_same pm_law_same an_law_same cd_law_same ct_law_same), sl_law_same⟩)
    (c_law_same : PySem.W.codeIn K cd_law_same "_law_same" = true)
    (k_law_same : PySem.W.keepIn K (.ref f_law_same) = true)
    (a_law_sorted_rows : PySem.W.nsIn K mainGlobals "_law_sorted_rows" = some (some (.ref f_law_sorted_rows)))
    (l_law_sorted_rows : K.lookup f_law_sorted_rows = some ⟨oc_law_sorted_rows, od_law_sorted_rows, .func (PySem.W.fnOf "_law_sorted_rows" "_law_sorted_rows" (defArgs s_law_sorted_rows) (defBody s_law_sorted_rows) (defScope s_law_sorted_rows) .none kV_law_sorted_rows dc_law_sorted_rows pm_law_sorted_rows an_law_sorted_rows cd_law_sorted_rows ct_law_sorted_rows), sl_law_sorted_rows⟩)
    (c_law_sorted_rows : PySem.W.codeIn K cd_law_sorted_rows "_law_sorted_rows" = true)
    (k_law_sorted_rows : PySem.W.keepIn K (.ref f_law_sorted_rows) = true)
    (a_law_compares : PySem.W.nsIn K mainGlobals "_law_compares" = some (some (.ref f_law_compares)))
    (l_law_compares : K.lookup f_law_compares = some ⟨oc_law_compares, od_law_compares, .func (PySem.W.fnOf "_law_compares" "_law_compares" (defArgs s_law_compares) (defBody s_law_compares) (defScope s_law_compares) .none kV_law_compares dc_law_compares pm_law_compares an_law_compares cd_law_compares ct_law_compares), sl_law_compares⟩)
    (c_law_compares : PySem.W.codeIn K cd_law_compares "_law_compares" = true)
    (k_law_compares : PySem.W.keepIn K (.ref f_law_compares) = true)
    (a_law_clause_holds : PySem.W.nsIn K mainGlobals "_law_clause_holds" = some (some (.ref f_law_clause_holds)))
    (l_law_clause_holds : K.lookup f_law_clause_holds = some ⟨oc_law_clause_holds, od_law_clause_holds, .func (PySem.W.fnOf "_law_clause_holds" "_law_clause_holds" (defArgs s_law_clause_holds) (defBody s_law_clause_holds) (defScope s_law_clause_holds) .none kV_law_clause_holds dc_law_clause_holds pm_law_clause_holds an_law_clause_holds cd_law_clause_holds ct_law_clause_holds), sl_law_clause_holds⟩)
    (c_law_clause_holds : PySem.W.codeIn K cd_law_clause_holds "_law_clause_holds" = true)
    (k_law_clause_holds : PySem.W.keepIn K (.ref f_law_clause_holds) = true)
    (a_law_holds : PySem.W.nsIn K mainGlobals "_law_holds" = some (some (.ref f_law_holds)))
    (l_law_holds : K.lookup f_law_holds = some ⟨oc_law_holds, od_law_holds, .func (PySem.W.fnOf "_law_holds" "_law_holds" (defArgs s_law_holds) (defBody s_law_holds) (defScope s_law_holds) .none kV_law_holds dc_law_holds pm_law_holds an_law_holds cd_law_holds ct_law_holds), sl_law_holds⟩)
    (c_law_holds : PySem.W.codeIn K cd_law_holds "_law_holds" = true)
    (k_law_holds : PySem.W.keepIn K (.ref f_law_holds) = true)
    (a_law_breaks_check : PySem.W.nsIn K mainGlobals "_law_breaks_check" = some (some (.ref f_law_breaks_check)))
    (l_law_breaks_check : K.lookup f_law_breaks_check = some ⟨oc_law_breaks_check, od_law_breaks_check, .func (PySem.W.fnOf "_law_breaks_check" "_law_breaks_check" (defArgs s_law_breaks_check) (defBody s_law_breaks_check) (defScope s_law_breaks_check) .none kV_law_breaks_check dc_law_breaks_check pm_law_breaks_check an_law_breaks_check cd_law_breaks_check ct_law_breaks_check), sl_law_breaks_check⟩)
    (c_law_breaks_check : PySem.W.codeIn K cd_law_breaks_check "_law_breaks_check" = true)
    (k_law_breaks_check : PySem.W.keepIn K (.ref f_law_breaks_check) = true)
    (a_law_breaks_unique : PySem.W.nsIn K mainGlobals "_law_breaks_unique" = some (some (.ref f_law_breaks_unique)))
    (l_law_breaks_unique : K.lookup f_law_breaks_unique = some ⟨oc_law_breaks_unique, od_law_breaks_unique, .func (PySem.W.fnOf "_law_breaks_unique" "_law_breaks_unique" (defArgs s_law_breaks_unique) (defBody s_law_breaks_unique) (defScope s_law_breaks_unique) .none kV_law_breaks_unique dc_law_breaks_unique pm_law_breaks_unique an_law_breaks_unique cd_law_breaks_unique ct_law_breaks_unique), sl_law_breaks_unique⟩)
    (c_law_breaks_unique : PySem.W.codeIn K cd_law_breaks_unique "_law_breaks_unique" = true)
    (k_law_breaks_unique : PySem.W.keepIn K (.ref f_law_breaks_unique) = true)
    (a_law_breaks_reference : PySem.W.nsIn K mainGlobals "_law_breaks_reference" = some (some (.ref f_law_breaks_reference)))
    (l_law_breaks_reference : K.lookup f_law_breaks_reference = some ⟨oc_law_breaks_reference, od_law_breaks_reference, .func (PySem.W.fnOf "_law_breaks_reference" "_law_breaks_reference" (defArgs s_law_breaks_reference) (defBody s_law_breaks_reference) (defScope s_law_breaks_reference) .none kV_law_breaks_reference dc_law_breaks_reference pm_law_breaks_reference an_law_breaks_reference cd_law_breaks_reference ct_law_breaks_reference), sl_law_breaks_reference⟩)
    (c_law_breaks_reference : PySem.W.codeIn K cd_law_breaks_reference "_law_breaks_reference" = true)
    (k_law_breaks_reference : PySem.W.keepIn K (.ref f_law_breaks_reference) = true)
    (a_law_fault : PySem.W.nsIn K mainGlobals "_law_fault" = some (some (.ref f_law_fault)))
    (l_law_fault : K.lookup f_law_fault = some ⟨oc_law_fault, od_law_fault, .func (PySem.W.fnOf "_law_fault" "_law_fault" (defArgs s_law_fault) (defBody s_law_fault) (defScope s_law_fault) .none kV_law_fault dc_law_fault pm_law_fault an_law_fault cd_law_fault ct_law_fault), sl_law_fault⟩)
    (c_law_fault : PySem.W.codeIn K cd_law_fault "_law_fault" = true)
    (k_law_fault : PySem.W.keepIn K (.ref f_law_fault) = true)
    (a_law : PySem.W.nsIn K mainGlobals "law" = some (some (.ref f_law)))
    (l_law : K.lookup f_law = some ⟨oc_law, od_law, .func (PySem.W.fnOf "law" "law" (defArgs s_law) (defBody s_law) (defScope s_law) .none kV_law dc_law pm_law an_law cd_law ct_law), sl_law⟩)
    (c_law : PySem.W.codeIn K cd_law "law" = true)
    (k_law : PySem.W.keepIn K (.ref f_law) = true)
    (z_abs : PySem.W.nsIn K mainGlobals "abs" = some none)
    (z_int : PySem.W.nsIn K mainGlobals "int" = some none)
    (z_len : PySem.W.nsIn K mainGlobals "len" = some none)
    (z_range : PySem.W.nsIn K mainGlobals "range" = some none)
    (z_list : PySem.W.nsIn K mainGlobals "list" = some none)
    (z_str : PySem.W.nsIn K mainGlobals "str" = some none)
    (z_tuple : PySem.W.nsIn K mainGlobals "tuple" = some none)
    (z_sorted : PySem.W.nsIn K mainGlobals "sorted" = some none)
    (z_isinstance : PySem.W.nsIn K mainGlobals "isinstance" = some none)
    (z_dict : PySem.W.nsIn K mainGlobals "dict" = some none)
    (z_any : PySem.W.nsIn K mainGlobals "any" = some none)
    (z_all : PySem.W.nsIn K mainGlobals "all" = some none)
    (z_bool : PySem.W.nsIn K mainGlobals "bool" = some none)
    (g_MOST_ROWS : PySem.W.nsIn K mainGlobals "MOST_ROWS" = some (some (Value.int 60 t_MOST_ROWS)))
    : ∃ fd : FuncData, (∀ (s : Shared) (v : Value), BindsTo s fd ⟨[v], []⟩ [("script", v)]) ∧ ∀ base : Heap, K.In base → base.Ns mainGlobals mg → FnOk l.prog w K mg base CX0 19 fa fd ["script"] (spLaw K) := by
  have e := hfa.symm.trans (PySem.W.mg_of X G a_law)
  cases e
  have F_law_tape := fun_mk (st := s_law_tape) l_law_tape c_law_tape k_law_tape
  have b_law_tape := F_law_tape.binds (ps := ["script"]) fun _ _ _ _ _ _ us hl => match us, hl with | [_], _ => rfl
  have n_law_tape : Kn K mg "_law_tape" s_law_tape ["script"] f_law_tape _ := ⟨F_law_tape, b_law_tape, PySem.W.mg_of X G a_law_tape⟩
  have F_law_take := fun_mk (st := s_law_take) l_law_take c_law_take k_law_take
  have b_law_take := F_law_take.binds (ps := ["tape", "many"]) fun _ _ _ _ _ _ us hl => match us, hl with | [_, _], _ => rfl
  have n_law_take : Kn K mg "_law_take" s_law_take ["tape", "many"] f_law_take _ := ⟨F_law_take, b_law_take, PySem.W.mg_of X G a_law_take⟩
  have F_law_name := fun_mk (st := s_law_name) l_law_name c_law_name k_law_name
  have b_law_name := F_law_name.binds (ps := ["tape", "used"]) fun _ _ _ _ _ _ us hl => match us, hl with | [_, _], _ => rfl
  have n_law_name : Kn K mg "_law_name" s_law_name ["tape", "used"] f_law_name _ := ⟨F_law_name, b_law_name, PySem.W.mg_of X G a_law_name⟩
  have F_law_table := fun_mk (st := s_law_table) l_law_table c_law_table k_law_table
  have b_law_table := F_law_table.binds (ps := ["columns"]) fun _ _ _ _ _ _ us hl => match us, hl with | [_], _ => rfl
  have n_law_table : Kn K mg "_law_table" s_law_table ["columns"] f_law_table _ := ⟨F_law_table, b_law_table, PySem.W.mg_of X G a_law_table⟩
  have F_law_columns := fun_mk (st := s_law_columns) l_law_columns c_law_columns k_law_columns
  have b_law_columns := F_law_columns.binds (ps := ["tape", "used", "many"]) fun _ _ _ _ _ _ us hl => match us, hl with | [_, _, _], _ => rfl
  have n_law_columns : Kn K mg "_law_columns" s_law_columns ["tape", "used", "many"] f_law_columns _ := ⟨F_law_columns, b_law_columns, PySem.W.mg_of X G a_law_columns⟩
  have F_law_names := fun_mk (st := s_law_names) l_law_names c_law_names k_law_names
  have b_law_names := F_law_names.binds (ps := ["columns"]) fun _ _ _ _ _ _ us hl => match us, hl with | [_], _ => rfl
  have n_law_names : Kn K mg "_law_names" s_law_names ["columns"] f_law_names _ := ⟨F_law_names, b_law_names, PySem.W.mg_of X G a_law_names⟩
  have F_law_integer := fun_mk (st := s_law_integer) l_law_integer c_law_integer k_law_integer
  have b_law_integer := F_law_integer.binds (ps := ["tape"]) fun _ _ _ _ _ _ us hl => match us, hl with | [_], _ => rfl
  have n_law_integer : Kn K mg "_law_integer" s_law_integer ["tape"] f_law_integer _ := ⟨F_law_integer, b_law_integer, PySem.W.mg_of X G a_law_integer⟩
  have F_law_char := fun_mk (st := s_law_char) l_law_char c_law_char k_law_char
  have b_law_char := F_law_char.binds (ps := ["tape"]) fun _ _ _ _ _ _ us hl => match us, hl with | [_], _ => rfl
  have n_law_char : Kn K mg "_law_char" s_law_char ["tape"] f_law_char _ := ⟨F_law_char, b_law_char, PySem.W.mg_of X G a_law_char⟩
  have F_law_text := fun_mk (st := s_law_text) l_law_text c_law_text k_law_text
  have b_law_text := F_law_text.binds (ps := ["tape"]) fun _ _ _ _ _ _ us hl => match us, hl with | [_], _ => rfl
  have n_law_text : Kn K mg "_law_text" s_law_text ["tape"] f_law_text _ := ⟨F_law_text, b_law_text, PySem.W.mg_of X G a_law_text⟩
  have F_law_value := fun_mk (st := s_law_value) l_law_value c_law_value k_law_value
  have b_law_value := F_law_value.binds (ps := ["tape", "kind", "nullable"]) fun _ _ _ _ _ _ us hl => match us, hl with | [_, _, _], _ => rfl
  have n_law_value : Kn K mg "_law_value" s_law_value ["tape", "kind", "nullable"] f_law_value _ := ⟨F_law_value, b_law_value, PySem.W.mg_of X G a_law_value⟩
  have F_law_clause := fun_mk (st := s_law_clause) l_law_clause c_law_clause k_law_clause
  have b_law_clause := F_law_clause.binds (ps := ["tape", "columns"]) fun _ _ _ _ _ _ us hl => match us, hl with | [_, _], _ => rfl
  have n_law_clause : Kn K mg "_law_clause" s_law_clause ["tape", "columns"] f_law_clause _ := ⟨F_law_clause, b_law_clause, PySem.W.mg_of X G a_law_clause⟩
  have F_law_condition := fun_mk (st := s_law_condition) l_law_condition c_law_condition k_law_condition
  have b_law_condition := F_law_condition.binds (ps := ["tape", "columns"]) fun _ _ _ _ _ _ us hl => match us, hl with | [_, _], _ => rfl
  have n_law_condition : Kn K mg "_law_condition" s_law_condition ["tape", "columns"] f_law_condition _ := ⟨F_law_condition, b_law_condition, PySem.W.mg_of X G a_law_condition⟩
  have F_law_limits := fun_mk (st := s_law_limits) l_law_limits c_law_limits k_law_limits
  have b_law_limits := F_law_limits.binds (ps := ["tape", "schema", "table"]) fun _ _ _ _ _ _ us hl => match us, hl with | [_, _, _], _ => rfl
  have n_law_limits : Kn K mg "_law_limits" s_law_limits ["tape", "schema", "table"] f_law_limits _ := ⟨F_law_limits, b_law_limits, PySem.W.mg_of X G a_law_limits⟩
  have F_law_schema := fun_mk (st := s_law_schema) l_law_schema c_law_schema k_law_schema
  have b_law_schema := F_law_schema.binds (ps := ["tape", "least", "most"]) fun _ _ _ _ _ _ us hl => match us, hl with | [_, _, _], _ => rfl
  have n_law_schema : Kn K mg "_law_schema" s_law_schema ["tape", "least", "most"] f_law_schema _ := ⟨F_law_schema, b_law_schema, PySem.W.mg_of X G a_law_schema⟩
  have F_law_rest := fun_mk (st := s_law_rest) l_law_rest c_law_rest k_law_rest
  have b_law_rest := F_law_rest.binds (ps := ["tape", "columns"]) fun _ _ _ _ _ _ us hl => match us, hl with | [_, _], _ => rfl
  have n_law_rest : Kn K mg "_law_rest" s_law_rest ["tape", "columns"] f_law_rest _ := ⟨F_law_rest, b_law_rest, PySem.W.mg_of X G a_law_rest⟩
  have F_law_rows := fun_mk (st := s_law_rows) l_law_rows c_law_rows k_law_rows
  have b_law_rows := F_law_rows.binds (ps := ["tape", "columns", "most"]) fun _ _ _ _ _ _ us hl => match us, hl with | [_, _, _], _ => rfl
  have n_law_rows : Kn K mg "_law_rows" s_law_rows ["tape", "columns", "most"] f_law_rows _ := ⟨F_law_rows, b_law_rows, PySem.W.mg_of X G a_law_rows⟩
  have F_law_state := fun_mk (st := s_law_state) l_law_state c_law_state k_law_state
  have b_law_state := F_law_state.binds (ps := ["tape", "schema", "most"]) fun _ _ _ _ _ _ us hl => match us, hl with | [_, _, _], _ => rfl
  have n_law_state : Kn K mg "_law_state" s_law_state ["tape", "schema", "most"] f_law_state _ := ⟨F_law_state, b_law_state, PySem.W.mg_of X G a_law_state⟩
  have F_law_fill := fun_mk (st := s_law_fill) l_law_fill c_law_fill k_law_fill
  have b_law_fill := F_law_fill.binds (ps := ["tape", "schema", "state"]) fun _ _ _ _ _ _ us hl => match us, hl with | [_, _, _], _ => rfl
  have n_law_fill : Kn K mg "_law_fill" s_law_fill ["tape", "schema", "state"] f_law_fill _ := ⟨F_law_fill, b_law_fill, PySem.W.mg_of X G a_law_fill⟩
  have F_law_copy := fun_mk (st := s_law_copy) l_law_copy c_law_copy k_law_copy
  have b_law_copy := F_law_copy.binds (ps := ["thing"]) fun _ _ _ _ _ _ us hl => match us, hl with | [_], _ => rfl
  have n_law_copy : Kn K mg "_law_copy" s_law_copy ["thing"] f_law_copy _ := ⟨F_law_copy, b_law_copy, PySem.W.mg_of X G a_law_copy⟩
  have F_rows := fun_mk (st := s_rows) l_rows c_rows k_rows
  have b_rows := F_rows.binds (ps := ["state", "table"]) fun _ _ _ _ _ _ us hl => match us, hl with | [_, _], _ => rfl
  have n_rows : Kn K mg "rows" s_rows ["state", "table"] f_rows _ := ⟨F_rows, b_rows, PySem.W.mg_of X G a_rows⟩
  have F_column_names := fun_mk (st := s_column_names) l_column_names c_column_names k_column_names
  have b_column_names := F_column_names.binds (ps := ["description"]) fun _ _ _ _ _ _ us hl => match us, hl with | [_], _ => rfl
  have n_column_names : Kn K mg "column_names" s_column_names ["description"] f_column_names _ := ⟨F_column_names, b_column_names, PySem.W.mg_of X G a_column_names⟩
  have F_leads_nowhere := fun_mk (st := s_leads_nowhere) l_leads_nowhere c_leads_nowhere k_leads_nowhere
  have b_leads_nowhere := F_leads_nowhere.binds (ps := ["row", "names", "references", "state"]) fun _ _ _ _ _ _ us hl => match us, hl with | [_, _, _, _], _ => rfl
  have n_leads_nowhere : Kn K mg "leads_nowhere" s_leads_nowhere ["row", "names", "references", "state"] f_leads_nowhere _ := ⟨F_leads_nowhere, b_leads_nowhere, PySem.W.mg_of X G a_leads_nowhere⟩
  have F_lost_keys := fun_mk (st := s_lost_keys) l_lost_keys c_lost_keys k_lost_keys
  have b_lost_keys := F_lost_keys.binds (ps := ["description", "listed", "state"]) fun _ _ _ _ _ _ us hl => match us, hl with | [_, _, _], _ => rfl
  have n_lost_keys : Kn K mg "lost_keys" s_lost_keys ["description", "listed", "state"] f_lost_keys _ := ⟨F_lost_keys, b_lost_keys, PySem.W.mg_of X G a_lost_keys⟩
  have F_repeated_keys := fun_mk (st := s_repeated_keys) l_repeated_keys c_repeated_keys k_repeated_keys
  have b_repeated_keys := F_repeated_keys.binds (ps := ["description", "listed"]) fun _ _ _ _ _ _ us hl => match us, hl with | [_, _], _ => rfl
  have n_repeated_keys : Kn K mg "repeated_keys" s_repeated_keys ["description", "listed"] f_repeated_keys _ := ⟨F_repeated_keys, b_repeated_keys, PySem.W.mg_of X G a_repeated_keys⟩
  have F_compares := fun_mk (st := s_compares) l_compares c_compares k_compares
  have b_compares := F_compares.binds (ps := ["value", "operator", "operand"]) fun _ _ _ _ _ _ us hl => match us, hl with | [_, _, _], _ => rfl
  have n_compares : Kn K mg "compares" s_compares ["value", "operator", "operand"] f_compares _ := ⟨F_compares, b_compares, PySem.W.mg_of X G a_compares⟩
  have F_clause_holds := fun_mk (st := s_clause_holds) l_clause_holds c_clause_holds k_clause_holds
  have b_clause_holds := F_clause_holds.binds (ps := ["clause", "names", "row"]) fun _ _ _ _ _ _ us hl => match us, hl with | [_, _, _], _ => rfl
  have n_clause_holds : Kn K mg "clause_holds" s_clause_holds ["clause", "names", "row"] f_clause_holds _ := ⟨F_clause_holds, b_clause_holds, PySem.W.mg_of X G a_clause_holds⟩
  have F_holds := fun_mk (st := s_holds) l_holds c_holds k_holds
  have b_holds := F_holds.binds (ps := ["condition", "names", "row"]) fun _ _ _ _ _ _ us hl => match us, hl with | [_, _, _], _ => rfl
  have n_holds : Kn K mg "holds" s_holds ["condition", "names", "row"] f_holds _ := ⟨F_holds, b_holds, PySem.W.mg_of X G a_holds⟩
  have F_unchecked_keys := fun_mk (st := s_unchecked_keys) l_unchecked_keys c_unchecked_keys k_unchecked_keys
  have b_unchecked_keys := F_unchecked_keys.binds (ps := ["description", "listed"]) fun _ _ _ _ _ _ us hl => match us, hl with | [_, _], _ => rfl
  have n_unchecked_keys : Kn K mg "unchecked_keys" s_unchecked_keys ["description", "listed"] f_unchecked_keys _ := ⟨F_unchecked_keys, b_unchecked_keys, PySem.W.mg_of X G a_unchecked_keys⟩
  have F_excess_keys := fun_mk (st := s_excess_keys) l_excess_keys c_excess_keys k_excess_keys
  have b_excess_keys := F_excess_keys.binds (ps := ["listed"]) fun _ _ _ _ _ _ us hl => match us, hl with | [_], _ => rfl
  have n_excess_keys : Kn K mg "excess_keys" s_excess_keys ["listed"] f_excess_keys _ := ⟨F_excess_keys, b_excess_keys, PySem.W.mg_of X G a_excess_keys⟩
  have F_table_fault := fun_mk (st := s_table_fault) l_table_fault c_table_fault k_table_fault
  have b_table_fault := F_table_fault.binds (ps := ["schema", "state", "table"]) fun _ _ _ _ _ _ us hl => match us, hl with | [_, _, _], _ => rfl
  have n_table_fault : Kn K mg "table_fault" s_table_fault ["schema", "state", "table"] f_table_fault _ := ⟨F_table_fault, b_table_fault, PySem.W.mg_of X G a_table_fault⟩
  have F_first_fault := fun_mk (st := s_first_fault) l_first_fault c_first_fault k_first_fault
  have b_first_fault := F_first_fault.binds (ps := ["schema", "state"]) fun _ _ _ _ _ _ us hl => match us, hl with | [_, _], _ => rfl
  have n_first_fault : Kn K mg "first_fault" s_first_fault ["schema", "state"] f_first_fault _ := ⟨F_first_fault, b_first_fault, PySem.W.mg_of X G a_first_fault⟩
  have F_law_is_integer := fun_mk (st := s_law_is_integer) l_law_is_integer c_law_is_integer k_law_is_integer
  have b_law_is_integer := F_law_is_integer.binds (ps := ["actual"]) fun _ _ _ _ _ _ us hl => match us, hl with | [_], _ => rfl
  have n_law_is_integer : Kn K mg "_law_is_integer" s_law_is_integer ["actual"] f_law_is_integer _ := ⟨F_law_is_integer, b_law_is_integer, PySem.W.mg_of X G a_law_is_integer⟩
  have F_law_same_items := fun_mk (st := s_law_same_items) l_law_same_items c_law_same_items k_law_same_items
  have b_law_same_items := F_law_same_items.binds (ps := ["actual", "expected"]) fun _ _ _ _ _ _ us hl => match us, hl with | [_, _], _ => rfl
  have n_law_same_items : Kn K mg "_law_same_items" s_law_same_items ["actual", "expected"] f_law_same_items _ := ⟨F_law_same_items, b_law_same_items, PySem.W.mg_of X G a_law_same_items⟩
  have F_law_same := fun_mk (st := s_law_same) l_law_same c_law_same k_law_same
  have b_law_same := F_law_same.binds (ps := ["actual", "expected"]) fun _ _ _ _ _ _ us hl => match us, hl with | [_, _], _ => rfl
  have n_law_same : Kn K mg "_law_same" s_law_same ["actual", "expected"] f_law_same _ := ⟨F_law_same, b_law_same, PySem.W.mg_of X G a_law_same⟩
  have F_law_sorted_rows := fun_mk (st := s_law_sorted_rows) l_law_sorted_rows c_law_sorted_rows k_law_sorted_rows
  have b_law_sorted_rows := F_law_sorted_rows.binds (ps := ["rows_v"]) fun _ _ _ _ _ _ us hl => match us, hl with | [_], _ => rfl
  have n_law_sorted_rows : Kn K mg "_law_sorted_rows" s_law_sorted_rows ["rows_v"] f_law_sorted_rows _ := ⟨F_law_sorted_rows, b_law_sorted_rows, PySem.W.mg_of X G a_law_sorted_rows⟩
  have F_law_compares := fun_mk (st := s_law_compares) l_law_compares c_law_compares k_law_compares
  have b_law_compares := F_law_compares.binds (ps := ["value", "operator", "operand"]) fun _ _ _ _ _ _ us hl => match us, hl with | [_, _, _], _ => rfl
  have n_law_compares : Kn K mg "_law_compares" s_law_compares ["value", "operator", "operand"] f_law_compares _ := ⟨F_law_compares, b_law_compares, PySem.W.mg_of X G a_law_compares⟩
  have F_law_clause_holds := fun_mk (st := s_law_clause_holds) l_law_clause_holds c_law_clause_holds k_law_clause_holds
  have b_law_clause_holds := F_law_clause_holds.binds (ps := ["clause", "names", "row"]) fun _ _ _ _ _ _ us hl => match us, hl with | [_, _, _], _ => rfl
  have n_law_clause_holds : Kn K mg "_law_clause_holds" s_law_clause_holds ["clause", "names", "row"] f_law_clause_holds _ := ⟨F_law_clause_holds, b_law_clause_holds, PySem.W.mg_of X G a_law_clause_holds⟩
  have F_law_holds := fun_mk (st := s_law_holds) l_law_holds c_law_holds k_law_holds
  have b_law_holds := F_law_holds.binds (ps := ["condition", "names", "row"]) fun _ _ _ _ _ _ us hl => match us, hl with | [_, _, _], _ => rfl
  have n_law_holds : Kn K mg "_law_holds" s_law_holds ["condition", "names", "row"] f_law_holds _ := ⟨F_law_holds, b_law_holds, PySem.W.mg_of X G a_law_holds⟩
  have F_law_breaks_check := fun_mk (st := s_law_breaks_check) l_law_breaks_check c_law_breaks_check k_law_breaks_check
  have b_law_breaks_check := F_law_breaks_check.binds (ps := ["description", "row"]) fun _ _ _ _ _ _ us hl => match us, hl with | [_, _], _ => rfl
  have n_law_breaks_check : Kn K mg "_law_breaks_check" s_law_breaks_check ["description", "row"] f_law_breaks_check _ := ⟨F_law_breaks_check, b_law_breaks_check, PySem.W.mg_of X G a_law_breaks_check⟩
  have F_law_breaks_unique := fun_mk (st := s_law_breaks_unique) l_law_breaks_unique c_law_breaks_unique k_law_breaks_unique
  have b_law_breaks_unique := F_law_breaks_unique.binds (ps := ["description", "earlier", "row"]) fun _ _ _ _ _ _ us hl => match us, hl with | [_, _, _], _ => rfl
  have n_law_breaks_unique : Kn K mg "_law_breaks_unique" s_law_breaks_unique ["description", "earlier", "row"] f_law_breaks_unique _ := ⟨F_law_breaks_unique, b_law_breaks_unique, PySem.W.mg_of X G a_law_breaks_unique⟩
  have F_law_breaks_reference := fun_mk (st := s_law_breaks_reference) l_law_breaks_reference c_law_breaks_reference k_law_breaks_reference
  have b_law_breaks_reference := F_law_breaks_reference.binds (ps := ["description", "state", "row"]) fun _ _ _ _ _ _ us hl => match us, hl with | [_, _, _], _ => rfl
  have n_law_breaks_reference : Kn K mg "_law_breaks_reference" s_law_breaks_reference ["description", "state", "row"] f_law_breaks_reference _ := ⟨F_law_breaks_reference, b_law_breaks_reference, PySem.W.mg_of X G a_law_breaks_reference⟩
  have F_law_fault := fun_mk (st := s_law_fault) l_law_fault c_law_fault k_law_fault
  have b_law_fault := F_law_fault.binds (ps := ["schema", "state"]) fun _ _ _ _ _ _ us hl => match us, hl with | [_, _], _ => rfl
  have n_law_fault : Kn K mg "_law_fault" s_law_fault ["schema", "state"] f_law_fault _ := ⟨F_law_fault, b_law_fault, PySem.W.mg_of X G a_law_fault⟩
  have F_law := fun_mk (st := s_law) l_law c_law k_law
  have b_law := F_law.binds (ps := ["script"]) fun _ _ _ _ _ _ us hl => match us, hl with | [_], _ => rfl
  have n_law : Kn K mg "law" s_law ["script"] fa _ := ⟨F_law, b_law, PySem.W.mg_of X G a_law⟩
  have z : Z mg := ⟨PySem.W.mg_none_of X G z_abs, PySem.W.mg_none_of X G z_int, PySem.W.mg_none_of X G z_len, PySem.W.mg_none_of X G z_range, PySem.W.mg_none_of X G z_list, PySem.W.mg_none_of X G z_str, PySem.W.mg_none_of X G z_tuple, PySem.W.mg_none_of X G z_sorted, PySem.W.mg_none_of X G z_isinstance, PySem.W.mg_none_of X G z_dict, PySem.W.mg_none_of X G z_any, PySem.W.mg_none_of X G z_all, PySem.W.mg_none_of X G z_bool, ⟨_, PySem.W.mg_of X G g_MOST_ROWS⟩⟩
  refine ⟨PySem.W.fnOf "law" "law" (defArgs s_law) (defBody s_law) (defScope s_law) .none kV_law dc_law pm_law an_law cd_law ct_law, fun s v => .of_eq rfl, fun base _ _ => ?_⟩
  have o_law_tape := ok_law_tape (P := l.prog) (w := w) (base := base) n_law_tape z 
  have o_law_take := ok_law_take (P := l.prog) (w := w) (base := base) n_law_take z 
  have o_law_name := ok_law_name (P := l.prog) (w := w) (base := base) n_law_name z o_law_take
  have o_law_table := ok_law_table (P := l.prog) (w := w) (base := base) n_law_table z 
  have o_law_columns := ok_law_columns (P := l.prog) (w := w) (base := base) n_law_columns z o_law_take o_law_name
  have o_law_names := ok_law_names (P := l.prog) (w := w) (base := base) n_law_names z 
  have o_law_integer := ok_law_integer (P := l.prog) (w := w) (base := base) n_law_integer z o_law_take
  have o_law_char := ok_law_char (P := l.prog) (w := w) (base := base) n_law_char z o_law_take
  have o_law_text := ok_law_text (P := l.prog) (w := w) (base := base) n_law_text z o_law_take o_law_char
  have o_law_value := ok_law_value (P := l.prog) (w := w) (base := base) n_law_value z o_law_take o_law_integer o_law_text
  have o_law_clause := ok_law_clause (P := l.prog) (w := w) (base := base) n_law_clause z o_law_take o_law_value
  have o_law_condition := ok_law_condition (P := l.prog) (w := w) (base := base) n_law_condition z o_law_take o_law_clause
  have o_law_limits := ok_law_limits (P := l.prog) (w := w) (base := base) n_law_limits z o_law_names o_law_take o_law_condition
  have o_law_schema := ok_law_schema (P := l.prog) (w := w) (base := base) n_law_schema z o_law_take o_law_name o_law_table o_law_columns o_law_limits
  have o_law_rest := ok_law_rest (P := l.prog) (w := w) (base := base) n_law_rest z o_law_value
  have o_law_rows := ok_law_rows (P := l.prog) (w := w) (base := base) n_law_rows z o_law_take o_law_value o_law_rest
  have o_law_state := ok_law_state (P := l.prog) (w := w) (base := base) n_law_state z o_law_rows
  have o_law_fill := ok_law_fill (P := l.prog) (w := w) (base := base) n_law_fill z o_law_take o_law_rest
  have o_law_copy := ok_law_copy (P := l.prog) (w := w) (base := base) n_law_copy z 9
  have o_rows := ok_rows (P := l.prog) (w := w) (base := base) n_rows z 
  have o_column_names := ok_column_names (P := l.prog) (w := w) (base := base) n_column_names z 
  have o_leads_nowhere := ok_leads_nowhere (P := l.prog) (w := w) (base := base) n_leads_nowhere z 
  have o_lost_keys := ok_lost_keys (P := l.prog) (w := w) (base := base) n_lost_keys z o_column_names o_leads_nowhere
  have o_repeated_keys := ok_repeated_keys (P := l.prog) (w := w) (base := base) n_repeated_keys z o_column_names
  have o_compares := ok_compares (P := l.prog) (w := w) (base := base) n_compares z 
  have o_clause_holds := ok_clause_holds (P := l.prog) (w := w) (base := base) n_clause_holds z o_compares
  have o_holds := ok_holds (P := l.prog) (w := w) (base := base) n_holds z o_clause_holds
  have o_unchecked_keys := ok_unchecked_keys (P := l.prog) (w := w) (base := base) n_unchecked_keys z o_column_names o_holds
  have o_excess_keys := ok_excess_keys (P := l.prog) (w := w) (base := base) n_excess_keys z 
  have o_table_fault := ok_table_fault (P := l.prog) (w := w) (base := base) n_table_fault z o_rows o_lost_keys o_repeated_keys o_unchecked_keys o_excess_keys
  have o_first_fault := ok_first_fault (P := l.prog) (w := w) (base := base) n_first_fault z o_table_fault
  have o_law_is_integer := ok_law_is_integer (P := l.prog) (w := w) (base := base) n_law_is_integer z 
  have _ := True.intro
  have o_law_same := ok_law_same (P := l.prog) (w := w) (base := base) n_law_same n_law_same_items z o_law_is_integer 9
  have o_law_sorted_rows := ok_law_sorted_rows (P := l.prog) (w := w) (base := base) n_law_sorted_rows z 
  have o_law_compares := ok_law_compares (P := l.prog) (w := w) (base := base) n_law_compares z 
  have o_law_clause_holds := ok_law_clause_holds (P := l.prog) (w := w) (base := base) n_law_clause_holds z o_law_compares
  have o_law_holds := ok_law_holds (P := l.prog) (w := w) (base := base) n_law_holds z o_law_clause_holds
  have o_law_breaks_check := ok_law_breaks_check (P := l.prog) (w := w) (base := base) n_law_breaks_check z o_law_names o_law_holds
  have o_law_breaks_unique := ok_law_breaks_unique (P := l.prog) (w := w) (base := base) n_law_breaks_unique z o_law_names
  have o_law_breaks_reference := ok_law_breaks_reference (P := l.prog) (w := w) (base := base) n_law_breaks_reference z o_law_names
  have o_law_fault := ok_law_fault (P := l.prog) (w := w) (base := base) n_law_fault z o_law_sorted_rows o_law_breaks_check o_law_breaks_unique o_law_breaks_reference
  have o_law := ok_law (P := l.prog) (w := w) (base := base) n_law z o_law_tape o_law_schema o_law_state o_law_take o_law_fill o_law_copy o_first_fault o_law_same o_law_fault
  exact o_law.G
theorem walk {l : PySem.W.OpenLaw} {q : Program} {loose : List Str} {XP : (Str → Option Value) → Heap → Prop} {YP : World → Heap → Prop} {d : DefRec} {K : Params → PySem.W.Frag} (hn : l.most = some 63) (hdf : d.params.defaults = [])
    (hY : ∀ (w : World) (h : Heap), YP w h → (K w.params).In h)
    (F : ∀ (w : World) (mg : Str → Option Value) (fa : Addr) (h : Heap), (K w.params).In h → h.Ns mainGlobals mg → mg d.name = some (.ref fa) →
      ∃ fd : FuncData, (∀ (s : Shared) (u : Value), BindsTo s fd ⟨[u], []⟩ [("script", u)]) ∧ ∀ base : Heap, (K w.params).In base → base.Ns mainGlobals mg → FnOk l.prog w (K w.params) mg base CX0 19 fa fd ["script"] (spLaw (K w.params))) :
    PySem.W.WalkO q loose XP YP l.row.toRowW d [] (fun f vs => PySem.call f vs) :=
  L2.walk_of (n := 63) (k := 19) (x := "script") (CX := fun _ => CX0) (sp := fun w => spLaw (K w.params)) hn (by decide) hdf ⟨rfl, by decide, by decide⟩ hY F (fun _ _ a ns hl _ hS => ⟨a, ns, rfl, hS, hl, fun _ => rfl⟩) fun _ _ _ _ _ z => z
end Lt
open PySem PySem.W PyProof.Rows
set_option maxRecDepth 100000 in
set_option maxHeartbeats 0 in
theorem PySem.Challenge.cw_lenstree_k09_first_fault_holds : PySem.Challenge.rw_lenstree_k09_first_fault.Holds := by
  w_on; o_law; k_head; (case hw => w_witness2)
  k_fill
  refine Lt.walk (l := PySem.Challenge.rw_lenstree_k09_first_fault) rfl rfl (fun w h Y => PySem.W.kIn_of Y) ?F
  case F =>
    intro w mg fa h KX G hmg
    refine' Lt.all_mk KX G hmg ?a_law_tape ?l_law_tape ?c_law_tape ?k_law_tape ?a_law_take ?l_law_take ?c_law_take ?k_law_take ?a_law_name ?l_law_name ?c_law_name ?k_law_name ?a_law_table ?l_law_table ?c_law_table ?k_law_table ?a_law_columns ?l_law_columns ?c_law_columns ?k_law_columns ?a_law_names ?l_law_names ?c_law_names ?k_law_names ?a_law_integer ?l_law_integer ?c_law_integer ?k_law_integer ?a_law_char ?l_law_char ?c_law_char ?k_law_char ?a_law_text ?l_law_text ?c_law_text ?k_law_text ?a_law_value ?l_law_value ?c_law_value ?k_law_value ?a_law_clause ?l_law_clause ?c_law_clause ?k_law_clause ?a_law_condition ?l_law_condition ?c_law_condition ?k_law_condition ?a_law_limits ?l_law_limits ?c_law_limits ?k_law_limits ?a_law_schema ?l_law_schema ?c_law_schema ?k_law_schema ?a_law_rest ?l_law_rest ?c_law_rest ?k_law_rest ?a_law_rows ?l_law_rows ?c_law_rows ?k_law_rows ?a_law_state ?l_law_state ?c_law_state ?k_law_state ?a_law_fill ?l_law_fill ?c_law_fill ?k_law_fill ?a_law_copy ?l_law_copy ?c_law_copy ?k_law_copy ?a_rows ?l_rows ?c_rows ?k_rows ?a_column_names ?l_column_names ?c_column_names ?k_column_names ?a_leads_nowhere ?l_leads_nowhere ?c_leads_nowhere ?k_leads_nowhere ?a_lost_keys ?l_lost_keys ?c_lost_keys ?k_lost_keys ?a_repeated_keys ?l_repeated_keys ?c_repeated_keys ?k_repeated_keys ?a_compares ?l_compares ?c_compares ?k_compares ?a_clause_holds ?l_clause_holds ?c_clause_holds ?k_clause_holds ?a_holds ?l_holds ?c_holds ?k_holds ?a_unchecked_keys ?l_unchecked_keys ?c_unchecked_keys ?k_unchecked_keys ?a_excess_keys ?l_excess_keys ?c_excess_keys ?k_excess_keys ?a_table_fault ?l_table_fault ?c_table_fault ?k_table_fault ?a_first_fault ?l_first_fault ?c_first_fault ?k_first_fault ?a_law_is_integer ?l_law_is_integer ?c_law_is_integer ?k_law_is_integer ?a_law_same_items ?l_law_same_items ?c_law_same_items ?k_law_same_items ?a_law_same ?l_law_same ?c_law_same ?k_law_same ?a_law_sorted_rows ?l_law_sorted_rows ?c_law_sorted_rows ?k_law_sorted_rows ?a_law_compares ?l_law_compares ?c_law_compares ?k_law_compares ?a_law_clause_holds ?l_law_clause_holds ?c_law_clause_holds ?k_law_clause_holds ?a_law_holds ?l_law_holds ?c_law_holds ?k_law_holds ?a_law_breaks_check ?l_law_breaks_check ?c_law_breaks_check ?k_law_breaks_check ?a_law_breaks_unique ?l_law_breaks_unique ?c_law_breaks_unique ?k_law_breaks_unique ?a_law_breaks_reference ?l_law_breaks_reference ?c_law_breaks_reference ?k_law_breaks_reference ?a_law_fault ?l_law_fault ?c_law_fault ?k_law_fault ?a_law ?l_law ?c_law ?k_law ?z_abs ?z_int ?z_len ?z_range ?z_list ?z_str ?z_tuple ?z_sorted ?z_isinstance ?z_dict ?z_any ?z_all ?z_bool ?g_MOST_ROWS
    (case a_law_tape => k_is)
    (case l_law_tape => k_is)
    (case c_law_tape => k_is)
    (case k_law_tape => k_is)
    (case a_law_take => k_is)
    (case l_law_take => k_is)
    (case c_law_take => k_is)
    (case k_law_take => k_is)
    (case a_law_name => k_is)
    (case l_law_name => k_is)
    (case c_law_name => k_is)
    (case k_law_name => k_is)
    (case a_law_table => k_is)
    (case l_law_table => k_is)
    (case c_law_table => k_is)
    (case k_law_table => k_is)
    (case a_law_columns => k_is)
    (case l_law_columns => k_is)
    (case c_law_columns => k_is)
    (case k_law_columns => k_is)
    (case a_law_names => k_is)
    (case l_law_names => k_is)
    (case c_law_names => k_is)
    (case k_law_names => k_is)
    (case a_law_integer => k_is)
    (case l_law_integer => k_is)
    (case c_law_integer => k_is)
    (case k_law_integer => k_is)
    (case a_law_char => k_is)
    (case l_law_char => k_is)
    (case c_law_char => k_is)
    (case k_law_char => k_is)
    (case a_law_text => k_is)
    (case l_law_text => k_is)
    (case c_law_text => k_is)
    (case k_law_text => k_is)
    (case a_law_value => k_is)
    (case l_law_value => k_is)
    (case c_law_value => k_is)
    (case k_law_value => k_is)
    (case a_law_clause => k_is)
    (case l_law_clause => k_is)
    (case c_law_clause => k_is)
    (case k_law_clause => k_is)
    (case a_law_condition => k_is)
    (case l_law_condition => k_is)
    (case c_law_condition => k_is)
    (case k_law_condition => k_is)
    (case a_law_limits => k_is)
    (case l_law_limits => k_is)
    (case c_law_limits => k_is)
    (case k_law_limits => k_is)
    (case a_law_schema => k_is)
    (case l_law_schema => k_is)
    (case c_law_schema => k_is)
    (case k_law_schema => k_is)
    (case a_law_rest => k_is)
    (case l_law_rest => k_is)
    (case c_law_rest => k_is)
    (case k_law_rest => k_is)
    (case a_law_rows => k_is)
    (case l_law_rows => k_is)
    (case c_law_rows => k_is)
    (case k_law_rows => k_is)
    (case a_law_state => k_is)
    (case l_law_state => k_is)
    (case c_law_state => k_is)
    (case k_law_state => k_is)
    (case a_law_fill => k_is)
    (case l_law_fill => k_is)
    (case c_law_fill => k_is)
    (case k_law_fill => k_is)
    (case a_law_copy => k_is)
    (case l_law_copy => k_is)
    (case c_law_copy => k_is)
    (case k_law_copy => k_is)
    (case a_rows => k_is)
    (case l_rows => k_is)
    (case c_rows => k_is)
    (case k_rows => k_is)
    (case a_column_names => k_is)
    (case l_column_names => k_is)
    (case c_column_names => k_is)
    (case k_column_names => k_is)
    (case a_leads_nowhere => k_is)
    (case l_leads_nowhere => k_is)
    (case c_leads_nowhere => k_is)
    (case k_leads_nowhere => k_is)
    (case a_lost_keys => k_is)
    (case l_lost_keys => k_is)
    (case c_lost_keys => k_is)
    (case k_lost_keys => k_is)
    (case a_repeated_keys => k_is)
    (case l_repeated_keys => k_is)
    (case c_repeated_keys => k_is)
    (case k_repeated_keys => k_is)
    (case a_compares => k_is)
    (case l_compares => k_is)
    (case c_compares => k_is)
    (case k_compares => k_is)
    (case a_clause_holds => k_is)
    (case l_clause_holds => k_is)
    (case c_clause_holds => k_is)
    (case k_clause_holds => k_is)
    (case a_holds => k_is)
    (case l_holds => k_is)
    (case c_holds => k_is)
    (case k_holds => k_is)
    (case a_unchecked_keys => k_is)
    (case l_unchecked_keys => k_is)
    (case c_unchecked_keys => k_is)
    (case k_unchecked_keys => k_is)
    (case a_excess_keys => k_is)
    (case l_excess_keys => k_is)
    (case c_excess_keys => k_is)
    (case k_excess_keys => k_is)
    (case a_table_fault => k_is)
    (case l_table_fault => k_is)
    (case c_table_fault => k_is)
    (case k_table_fault => k_is)
    (case a_first_fault => k_is)
    (case l_first_fault => k_is)
    (case c_first_fault => k_is)
    (case k_first_fault => k_is)
    (case a_law_is_integer => k_is)
    (case l_law_is_integer => k_is)
    (case c_law_is_integer => k_is)
    (case k_law_is_integer => k_is)
    (case a_law_same_items => k_is)
    (case l_law_same_items => k_is)
    (case c_law_same_items => k_is)
    (case k_law_same_items => k_is)
    (case a_law_same => k_is)
    (case l_law_same => k_is)
    (case c_law_same => k_is)
    (case k_law_same => k_is)
    (case a_law_sorted_rows => k_is)
    (case l_law_sorted_rows => k_is)
    (case c_law_sorted_rows => k_is)
    (case k_law_sorted_rows => k_is)
    (case a_law_compares => k_is)
    (case l_law_compares => k_is)
    (case c_law_compares => k_is)
    (case k_law_compares => k_is)
    (case a_law_clause_holds => k_is)
    (case l_law_clause_holds => k_is)
    (case c_law_clause_holds => k_is)
    (case k_law_clause_holds => k_is)
    (case a_law_holds => k_is)
    (case l_law_holds => k_is)
    (case c_law_holds => k_is)
    (case k_law_holds => k_is)
    (case a_law_breaks_check => k_is)
    (case l_law_breaks_check => k_is)
    (case c_law_breaks_check => k_is)
    (case k_law_breaks_check => k_is)
    (case a_law_breaks_unique => k_is)
    (case l_law_breaks_unique => k_is)
    (case c_law_breaks_unique => k_is)
    (case k_law_breaks_unique => k_is)
    (case a_law_breaks_reference => k_is)
    (case l_law_breaks_reference => k_is)
    (case c_law_breaks_reference => k_is)
    (case k_law_breaks_reference => k_is)
    (case a_law_fault => k_is)
    (case l_law_fault => k_is)
    (case c_law_fault => k_is)
    (case k_law_fault => k_is)
    (case a_law => k_is)
    (case l_law => k_is)
    (case c_law => k_is)
    (case k_law => k_is)
    (case z_abs => k_is)
    (case z_int => k_is)
    (case z_len => k_is)
    (case z_range => k_is)
    (case z_list => k_is)
    (case z_str => k_is)
    (case z_tuple => k_is)
    (case z_sorted => k_is)
    (case z_isinstance => k_is)
    (case z_dict => k_is)
    (case z_any => k_is)
    (case z_all => k_is)
    (case z_bool => k_is)
    (case g_MOST_ROWS => k_is)
#print axioms PySem.Challenge.cw_lenstree_k09_first_fault_holds
