import PyProof.Rows.All
import Wide.All
import OpenK.AllK
import Wide.FinOn
import HandS.ForMost
import HandS.Wide
import HandS.IsInst
import HandS.Flow
import HandS.Codes
import HandS.StrMore
import HandS.Walk
import HandS.Style
import HandS.Exc
import HandS.DictComp
import HandS.TupAny
import HandS.More
import HandS.SortInts
import HandS.Rev
import KE.KDictList
import HandS.Replace
import KE.BitLaws
import HandS.ExcInit
import HandS.ExcField
import HandS.ExcCtx
import HandS.HotCalls
import HandS.ExcInitHot
import HandS.ExcIs
import KE.KStateDown
import HandS.Head0
import HandS.Head1
import HandS.Head2
import HandS.HeadEnd
import HandS.HeadHook1
import HandS.HeadHook2
import HandS.Small
import PySem.Challenge.RW_lenstree_k42_frames_and_records
set_option Elab.async false
set_option linter.all false
set_option maxRecDepth 100000
set_option maxHeartbeats 4000000
set_option autoImplicit false
set_option autoImplicit false
namespace Lt
open PySem L2 TL
open C8 (pss_cut)
/-! ## what every law of Lenstree leans on -/
/-- a def that has been walked: how it is called -/
structure Cal (P : Program) (w : World) (K : PySem.W.Frag) (mg : Str → Option Value) (base : Heap) (n : Nat) (x : Str) (ps : List Str) (sp : Sp) (g : Addr) (gd : FuncData) : Prop where
  G : FnOk P w K mg base CX0 n g gd ps sp
  m : mg x = some (.ref g)
  kp : PySem.W.keepIn K (.ref g) = true
  b : Binds K gd ps []
/-- a def as the top has made it -/
structure Kn (K : PySem.W.Frag) (mg : Str → Option Value) (x : Str) (st : Stmt) (ps : List Str) (g : Addr) (gd : FuncData) : Prop where
  F : Fun K x x st g gd
  b : Binds K gd ps []
  m : mg x = some (.ref g)
theorem Kn.cal {P : Program} {w : World} {K : PySem.W.Frag} {mg : Str → Option Value} {base : Heap} {n : Nat} {x : Str} {st : Stmt} {ps : List Str} {sp : Sp} {g : Addr} {gd : FuncData}
    (k : Kn K mg x st ps g gd) (G : FnOk P w K mg base CX0 n g gd ps sp) : Cal P w K mg base n x ps sp g gd := ⟨G, k.m, k.F.kp, k.b⟩

/-! ### heaps that differ at one place -/
def SameX (t : Addr) (H H' : Hp) : Prop := ∀ b o, H b = some o → b ≠ t → H' b = some o
theorem SameX.refl (t : Addr) (H : Hp) : SameX t H H := fun _ _ h _ => h
theorem SameX.trans {t : Addr} {H H1 H2 : Hp} (a : SameX t H H1) (b : SameX t H1 H2) : SameX t H H2 := fun c o h n => b c o (a c o h n) n
theorem SameX.of {t : Addr} {H H1 : Hp} (a : Same H H1) : SameX t H H1 := fun c o h _ => a c o h
theorem SameX.upd {t : Addr} {H : Hp} (o : HO) : SameX t H (upd H t o) := fun b u h n => by rw [upd_ne n]; exact h
theorem same_new {H : Hp} {p : Addr} (h : H p = none) (o : HO) : Same H (upd H p o) := fun b u q => by rw [upd_ne (ne_of_none q h)]; exact q
theorem SameX.free {t : Addr} {H H' : Hp} (e : SameX t H H') {l : Addr} (hl : l ≠ t) (h : H' l = none) : H l = none := by
  cases q : H l with
  | none => rfl
  | some o => rw [e l o q hl] at h; cases h

theorem iteDT {c A B : Prop} [Decidable c] (hc : c) (h : A) : if decide c = true then A else B := by
  rw [decide_eq_true hc]; exact iteT h
theorem iteDF {c A B : Prop} [Decidable c] (hc : ¬ c) (h : B) : if decide c = true then A else B := by
  rw [decide_eq_false hc]; exact iteF h
theorem iteNF {c A B : Prop} [Decidable c] (hc : ¬ c) (h : A) : if (!decide c) = true then A else B := by
  rw [decide_eq_false hc]; exact iteT h
theorem ifD {c A B : Prop} [Decidable c] (h1 : c → A) (h2 : ¬ c → B) : if decide c = true then A else B := by
  by_cases h : c
  · exact iteDT h (h1 h)
  · exact iteDF h (h2 h)
theorem ifN {c A B : Prop} [Decidable c] (h1 : ¬ c → A) (h2 : c → B) : if (!decide c) = true then A else B := by
  by_cases h : c
  · exact iteNS h (h2 h)
  · exact iteNF h (h1 h)
theorem bl_T {c : Prop} [Decidable c] {Q : VK} {H : Hp} (hc : c) (h : Q (.bl true) H) : Q (.bl (decide c)) H := by rw [decide_eq_true hc]; exact h
theorem bl_F {c : Prop} [Decidable c] {Q : VK} {H : Hp} (hc : ¬ c) (h : Q (.bl false) H) : Q (.bl (decide c)) H := by rw [decide_eq_false hc]; exact h
theorem int_at {ns : List Int} {i : Nat} {x : V} (h : (ns.map V.int)[i]? = some x) : ∃ z, x = V.int z ∧ ns[i]? = some z := by
  rw [List.getElem?_map] at h
  cases e : ns[i]? with
  | none => rw [e] at h; cases h
  | some z => rw [e] at h; exact ⟨z, (Option.some.inj h).symm, rfl⟩
theorem same_upd {H H1 : Hp} {p : Addr} (h : H p = none) (o : HO) (e : Same H H1) : Same H (upd H1 p o) := fun b u q => by rw [upd_ne (ne_of_none q h)]; exact e _ _ q
theorem samex_upd {t : Addr} {H H1 : Hp} {p : Addr} (h : H p = none) (o : HO) (e : SameX t H H1) : SameX t H (upd H1 p o) := fun b u q n => by rw [upd_ne (ne_of_none q h)]; exact e _ _ q n
/-- isinstance(x, T) -/
theorem isi {K : PySem.W.Frag} {H : Hp} {Q : VK} {x : V} {a b : String} (r : Bool) (hT : TyX K H x (.type a)) (h : kitB a b = some r) (q : Q (.bl r) H) : rIsi K [x, .ty b] H Q :=
  ⟨_, _, _, _, r, rfl, .ty _, hT, kit_ty h, q⟩
/-- xs[i] of a list or a tuple -/
theorem ixq {K : PySem.W.Frag} {H : Hp} {Q : VK} {a : Addr} {xs : List V} {i : Int} {v : V} (h : SqL K H a xs ∨ SqT K H a xs) (e : atI xs i = some v) (q : Q v H) : rIx K (.ref a) (.int i) H Q := by
  rcases h with h | h
  · exact .inl ⟨a, xs, i, v, rfl, rfl, h, e, q⟩
  · exact .inr (.inl ⟨a, xs, i, v, rfl, rfl, h, e, q⟩)
theorem at_in {α : Type} {xs : List α} {i : Int} (h0 : 0 ≤ i) (h1 : i < xs.length) : ∃ v, atI xs i = some v ∧ v ∈ xs := by
  have hk : i.toNat < xs.length := by omega
  refine ⟨xs[i.toNat], ?_, List.getElem_mem hk⟩
  have e : i = ((i.toNat : Nat) : Int) := by omega
  have q : atI xs ((i.toNat : Nat) : Int) = some xs[i.toNat] := atI_nat (List.getElem?_eq_getElem hk)
  rw [← e] at q
  exact q
/-! ### texts -/
def one (c : Nat) : Str := ⟨#[c]⟩
def chOk (c : Nat) : Prop := 32 ≤ c ∧ c ≤ 126 ∧ c ≠ 37
instance (c : Nat) : Decidable (chOk c) := by unfold chOk; exact inferInstance
theorem tl_one (c : Nat) : tl (one c) = [c] := rfl
theorem join_ones : ∀ chs : List Nat, joinL [] ((chs.map one).map tl) = chs
  | [] => rfl
  | [c] => rfl
  | c :: d :: r => by
    have q := join_ones (d :: r)
    show [c] ++ ([] ++ joinL [] (((d :: r).map one).map tl)) = c :: d :: r
    rw [q]; rfl
theorem strOk_of {x : Str} (h : ∀ c ∈ tl x, chOk c) : PyData.strOk x = true := by
  unfold PyData.strOk
  rw [← Array.all_toList, List.all_eq_true]
  intro c hc
  have := h c hc
  unfold chOk at this
  exact decide_eq_true (by omega)
theorem tl_empty : tl ("" : Str) = [] := by decide +kernel
theorem tl_joined (chs : List Nat) : tl (Txt.join ("" : Str) (chs.map one)) = chs := by
  rw [join_eq, tl_join, tl_empty, join_ones]
theorem len_joined (chs : List Nat) : (Txt.join ("" : Str) (chs.map one)).length = chs.length := by rw [len_tl, tl_joined]
theorem sum_ones (chs : List Nat) : ((chs.map one).map (·.length)).sum = chs.length := by
  induction chs with
  | nil => rfl
  | cons c r ih => rw [List.map_cons, List.map_cons, List.sum_cons, ih, List.length_cons]; show 1 + r.length = r.length + 1; omega
/-! ### the tape that a law draws from -/
theorem s_cells_at : ¬ ("cells" : Str) = ("at" : Str) := by decide +kernel
theorem n_cells_at : ¬ (Sum.inr ("cells" : Str) : Key) = Sum.inr ("at" : Str) := fun e => s_cells_at (Sum.inr.inj e)
theorem s_cells_left : ¬ ("cells" : Str) = ("left" : Str) := by decide +kernel
theorem n_cells_left : ¬ (Sum.inr ("cells" : Str) : Key) = Sum.inr ("left" : Str) := fun e => s_cells_left (Sum.inr.inj e)
theorem s_cells_seed : ¬ ("cells" : Str) = ("seed" : Str) := by decide +kernel
theorem n_cells_seed : ¬ (Sum.inr ("cells" : Str) : Key) = Sum.inr ("seed" : Str) := fun e => s_cells_seed (Sum.inr.inj e)
theorem s_cells_salt : ¬ ("cells" : Str) = ("salt" : Str) := by decide +kernel
theorem n_cells_salt : ¬ (Sum.inr ("cells" : Str) : Key) = Sum.inr ("salt" : Str) := fun e => s_cells_salt (Sum.inr.inj e)
theorem s_at_cells : ¬ ("at" : Str) = ("cells" : Str) := by decide +kernel
theorem s_at_left : ¬ ("at" : Str) = ("left" : Str) := by decide +kernel
theorem n_at_left : ¬ (Sum.inr ("at" : Str) : Key) = Sum.inr ("left" : Str) := fun e => s_at_left (Sum.inr.inj e)
theorem s_at_seed : ¬ ("at" : Str) = ("seed" : Str) := by decide +kernel
theorem n_at_seed : ¬ (Sum.inr ("at" : Str) : Key) = Sum.inr ("seed" : Str) := fun e => s_at_seed (Sum.inr.inj e)
theorem s_at_salt : ¬ ("at" : Str) = ("salt" : Str) := by decide +kernel
theorem n_at_salt : ¬ (Sum.inr ("at" : Str) : Key) = Sum.inr ("salt" : Str) := fun e => s_at_salt (Sum.inr.inj e)
theorem s_left_cells : ¬ ("left" : Str) = ("cells" : Str) := by decide +kernel
theorem s_left_at : ¬ ("left" : Str) = ("at" : Str) := by decide +kernel
theorem s_left_seed : ¬ ("left" : Str) = ("seed" : Str) := by decide +kernel
theorem n_left_seed : ¬ (Sum.inr ("left" : Str) : Key) = Sum.inr ("seed" : Str) := fun e => s_left_seed (Sum.inr.inj e)
theorem s_left_salt : ¬ ("left" : Str) = ("salt" : Str) := by decide +kernel
theorem n_left_salt : ¬ (Sum.inr ("left" : Str) : Key) = Sum.inr ("salt" : Str) := fun e => s_left_salt (Sum.inr.inj e)
theorem s_seed_cells : ¬ ("seed" : Str) = ("cells" : Str) := by decide +kernel
theorem s_seed_at : ¬ ("seed" : Str) = ("at" : Str) := by decide +kernel
theorem s_seed_left : ¬ ("seed" : Str) = ("left" : Str) := by decide +kernel
theorem s_seed_salt : ¬ ("seed" : Str) = ("salt" : Str) := by decide +kernel
theorem n_seed_salt : ¬ (Sum.inr ("seed" : Str) : Key) = Sum.inr ("salt" : Str) := fun e => s_seed_salt (Sum.inr.inj e)
theorem s_salt_cells : ¬ ("salt" : Str) = ("cells" : Str) := by decide +kernel
theorem s_salt_at : ¬ ("salt" : Str) = ("at" : Str) := by decide +kernel
theorem s_salt_left : ¬ ("salt" : Str) = ("left" : Str) := by decide +kernel
theorem s_salt_seed : ¬ ("salt" : Str) = ("seed" : Str) := by decide +kernel
def tk (c : Addr) (a l s m : Int) : List (Key × V) := [(Sum.inr "cells", .ref c), (Sum.inr "at", .int a), (Sum.inr "left", .int l), (Sum.inr "seed", .int s), (Sum.inr "salt", .int m)]
section
variable (c : Addr) (a l s m x : Int)
theorem tk_cells : valV (tk c a l s m) (Sum.inr ("cells" : Str) : Key) = some (.ref c) := valV_pos rfl
theorem tk_at : valV (tk c a l s m) (Sum.inr ("at" : Str) : Key) = some (.int a) := by unfold tk; rw [valV_neg n_cells_at, valV_pos rfl]
theorem tk_left : valV (tk c a l s m) (Sum.inr ("left" : Str) : Key) = some (.int l) := by unfold tk; rw [valV_neg n_cells_left, valV_neg n_at_left, valV_pos rfl]
theorem tk_seed : valV (tk c a l s m) (Sum.inr ("seed" : Str) : Key) = some (.int s) := by unfold tk; rw [valV_neg n_cells_seed, valV_neg n_at_seed, valV_neg n_left_seed, valV_pos rfl]
theorem tk_salt : valV (tk c a l s m) (Sum.inr ("salt" : Str) : Key) = some (.int m) := by unfold tk; rw [valV_neg n_cells_salt, valV_neg n_at_salt, valV_neg n_left_salt, valV_neg n_seed_salt, valV_pos rfl]
theorem put_at : putK (tk c a l s m) (Sum.inr ("at" : Str) : Key) (.int x) = tk c x l s m := by
  simp [putK, tk, s_at_cells, s_cells_at, s_at_left, s_left_at, s_at_seed, s_seed_at, s_at_salt, s_salt_at]
theorem put_left : putK (tk c a l s m) (Sum.inr ("left" : Str) : Key) (.int x) = tk c a x s m := by
  simp [putK, tk, s_left_cells, s_cells_left, s_left_at, s_at_left, s_left_seed, s_seed_left, s_left_salt, s_salt_left]
theorem put_salt : putK (tk c a l s m) (Sum.inr ("salt" : Str) : Key) (.int x) = tk c a l s x := by
  simp [putK, tk, s_salt_cells, s_cells_salt, s_salt_at, s_at_salt, s_salt_left, s_left_salt, s_salt_seed, s_seed_salt]
end
theorem merge_tk (c : Addr) (a l s m : Int) : mergeK [] (tk c a l s m) = tk c a l s m := by
  simp [mergeK, putK, tk, s_cells_at, s_cells_left, s_cells_seed, s_cells_salt, s_at_left, s_at_seed, s_at_salt, s_left_seed, s_left_salt, s_seed_salt]
structure TapeAt (H : Hp) (t c : Addr) (cs : List Int) : Prop where
  dk : ∃ a l s m : Int, H t = some (.dK (tk c a l s m)) ∧ 0 ≤ a ∧ 0 ≤ l
  ls : H c = some (.lst (cs.map V.int))
  nn : ∀ x ∈ cs, (0 : Int) ≤ x
theorem TapeAt.ne {H : Hp} {t c : Addr} {cs : List Int} (T : TapeAt H t c cs) : c ≠ t := by
  obtain ⟨a, l, s, m, h, _⟩ := T.dk
  exact ne_of T.ls h (by intro z; cases z)
theorem TapeAt.mono {H H' : Hp} {t c : Addr} {cs : List Int} (T : TapeAt H t c cs) (e : Same H H') : TapeAt H' t c cs := by
  obtain ⟨a, l, s, m, h, h1, h2⟩ := T.dk
  exact ⟨⟨a, l, s, m, e _ _ h, h1, h2⟩, e _ _ T.ls, T.nn⟩
theorem TapeAt.upd {H : Hp} {t c D : Addr} {cs : List Int} {o : HO} (T : TapeAt H t c cs) (h1 : D ≠ t) (h2 : c ≠ D) : TapeAt (upd H D o) t c cs := by
  obtain ⟨a, l, s, m, h, k1, k2⟩ := T.dk
  exact ⟨⟨a, l, s, m, by rw [upd_ne h1.symm]; exact h, k1, k2⟩, by rw [upd_ne h2]; exact T.ls, T.nn⟩
theorem tk_len {c : Addr} {a l s m : Int} : (tk c a l s m).length < sizeLine := by show 5 < sizeLine; decide
section
variable {H : Hp} {t c : Addr} {a l s m : Int}
theorem d_cells (h : H t = some (.dK (tk c a l s m))) : DGet H t (.str "cells") (some (.ref c)) := by have g := DGet.k (k := (Sum.inr ("cells" : Str) : Key)) h; rw [tk_cells] at g; exact g
theorem d_at (h : H t = some (.dK (tk c a l s m))) : DGet H t (.str "at") (some (.int a)) := by have g := DGet.k (k := (Sum.inr ("at" : Str) : Key)) h; rw [tk_at] at g; exact g
theorem d_left (h : H t = some (.dK (tk c a l s m))) : DGet H t (.str "left") (some (.int l)) := by have g := DGet.k (k := (Sum.inr ("left" : Str) : Key)) h; rw [tk_left] at g; exact g
theorem d_seed (h : H t = some (.dK (tk c a l s m))) : DGet H t (.str "seed") (some (.int s)) := by have g := DGet.k (k := (Sum.inr ("seed" : Str) : Key)) h; rw [tk_seed] at g; exact g
theorem d_salt (h : H t = some (.dK (tk c a l s m))) : DGet H t (.str "salt") (some (.int m)) := by have g := DGet.k (k := (Sum.inr ("salt" : Str) : Key)) h; rw [tk_salt] at g; exact g
theorem p_at (h : H t = some (.dK (tk c a l s m))) (x : Int) : DPut H t (.str "at") (.int x) (upd H t (.dK (tk c x l s m))) := by have g := DPut.k (k := (Sum.inr ("at" : Str) : Key)) (v := .int x) h tk_len; rw [put_at] at g; exact g
theorem p_left (h : H t = some (.dK (tk c a l s m))) (x : Int) : DPut H t (.str "left") (.int x) (upd H t (.dK (tk c a x s m))) := by have g := DPut.k (k := (Sum.inr ("left" : Str) : Key)) (v := .int x) h tk_len; rw [put_left] at g; exact g
theorem p_salt (h : H t = some (.dK (tk c a l s m))) (x : Int) : DPut H t (.str "salt") (.int x) (upd H t (.dK (tk c a l s x))) := by have g := DPut.k (k := (Sum.inr ("salt" : Str) : Key)) (v := .int x) h tk_len; rw [put_salt] at g; exact g
end
/-- _law_tape -/
def spTape (K : PySem.W.Frag) : Sp := fun vs H Q _ => ∃ (a : Addr) (ns : List Int), vs = [.ref a] ∧ SqL K H a (ns.map V.int) ∧ ns.length ≤ 63 ∧
  ∀ t c cs H', TapeAt H' t c cs → Same H H' → H t = none → Q (.ref t) H'
/-- _law_take -/
def spTake : Sp := fun vs H Q _ => ∃ (t c : Addr) (cs : List Int) (many : Int), vs = [.ref t, .int many] ∧ TapeAt H t c cs ∧ 0 < many ∧ many.natAbs < 2 ^ 9000 ∧
  ∀ d H', 0 ≤ d → d < many → TapeAt H' t c cs → SameX t H H' → Q (.int d) H'

/-! ### two pieces of data that are the same -/
def isScal : V → Bool
  | .non => true
  | .bl _ => true
  | .int _ => true
  | .str _ => true
  | _ => false
/-- x and y are the same data, nested less than n deep -/
def SameV (K : PySem.W.Frag) (H : Hp) : Nat → V → V → Prop
  | 0, _, _ => False
  | n + 1, x, y => (x = y ∧ isScal x = true) ∨
      (∃ (a b : Addr) (xs ys : List V), x = .ref a ∧ y = .ref b ∧ H a = some (.lst xs) ∧ H b = some (.lst ys) ∧ xs.length = ys.length ∧ xs.length ≤ 1000 ∧ ∀ (i : Nat) (u v : V), xs[i]? = some u → ys[i]? = some v → SameV K H n u v) ∨
      (∃ (a b : Addr) (xs ys : List V), x = .ref a ∧ y = .ref b ∧ H a = some (.tup xs) ∧ H b = some (.tup ys) ∧ xs.length = ys.length ∧ xs.length ≤ 1000 ∧ ∀ (i : Nat) (u v : V), xs[i]? = some u → ys[i]? = some v → SameV K H n u v)
theorem SameV.sc {K : PySem.W.Frag} {H : Hp} {n : Nat} {x : V} (h : isScal x = true) : SameV K H (n + 1) x x := Or.inl ⟨rfl, h⟩
/-- _law_same, for data that are the same -/
def spSame (K : PySem.W.Frag) (n : Nat) : Sp := fun vs H Q _ => ∃ x y, vs = [x, y] ∧ SameV K H n x y ∧ Q (.bl true) H
def spItems (K : PySem.W.Frag) (n : Nat) : Sp := fun vs H Q _ => ∃ (a b : Addr) (xs ys : List V), vs = [.ref a, .ref b] ∧ ((H a = some (.lst xs) ∧ H b = some (.lst ys)) ∨ (H a = some (.tup xs) ∧ H b = some (.tup ys))) ∧ xs.length = ys.length ∧ xs.length ≤ 1000 ∧
  (∀ (i : Nat) (u v : V), xs[i]? = some u → ys[i]? = some v → SameV K H n u v) ∧ Q (.bl true) H
def spIsInt : Sp := fun vs H Q _ => ∃ x, vs = [x] ∧ isScal x = true ∧ Q (.bl (match x with | .int _ => true | _ => false)) H
theorem ty_scal {K : PySem.W.Frag} {H : Hp} {x : V} (h : isScal x = true) : ∃ t : String, TyX K H x (.type t) ∧ (x = .non ∧ t = "NoneType" ∨ (∃ b, x = .bl b) ∧ t = "bool" ∨ (∃ i, x = .int i) ∧ t = "int" ∨ (∃ z, x = .str z) ∧ t = "str") := by
  cases x with
  | non => exact ⟨_, .base .non, .inl ⟨rfl, rfl⟩⟩
  | bl b => exact ⟨_, .base (.bl b), .inr (.inl ⟨⟨b, rfl⟩, rfl⟩)⟩
  | int i => exact ⟨_, .base (.int i), .inr (.inr (.inl ⟨⟨i, rfl⟩, rfl⟩))⟩
  | str z => exact ⟨_, .base (.str z), .inr (.inr (.inr ⟨⟨z, rfl⟩, rfl⟩))⟩
  | byt _ => cases h
  | flt _ => cases h
  | ref _ => cases h
  | ty _ => cases h
/-- a def that draws: from the tape at t, what it hands back in R -/
def spDraw (R : V → Hp → Addr → Prop) : Sp := fun vs H Q _ => ∃ (t c : Addr) (cs : List Int), vs = [.ref t] ∧ TapeAt H t c cs ∧ ∀ v H', R v H' t → TapeAt H' t c cs → SameX t H H' → Q v H'
def isChar : V → Hp → Addr → Prop := fun v _ _ => ∃ c, chOk c ∧ v = .str (one c)
def isText (n : Nat) : V → Hp → Addr → Prop := fun v _ _ => ∃ z : Str, z.length ≤ n ∧ (∀ c ∈ tl z, chOk c) ∧ v = .str z
def isInt (lo hi : Int) : V → Hp → Addr → Prop := fun v _ _ => ∃ i : Int, lo ≤ i ∧ i ≤ hi ∧ v = .int i
theorem cutS_sub {z : Str} {lo hi : Option Int} : ∀ c ∈ tl (cutS z lo hi), c ∈ tl z := by
  intro c hc
  have e : tl (cutS z lo hi) = (z.cps.toList.drop (HT.sIx z.length 0 lo)).take (HT.sIx z.length z.length hi - HT.sIx z.length 0 lo) := by simp [tl, cutS]
  rw [e] at hc
  exact List.mem_of_mem_drop (List.mem_of_mem_take hc)
theorem len_app (u v : Str) : (u ++ v).length = u.length + v.length := by rw [len_tl, tl_append, List.length_append, ← len_tl, ← len_tl]
/-- anything that is handed to is_value -/
inductive Thing (H : Hp) : V → Prop where
  | non : Thing H .non
  | bl (b : Bool) : Thing H (.bl b)
  | int (i : Int) : Thing H (.int i)
  | str (z : Str) (h : z.length ≤ 1000) : Thing H (.str z)
  | lst {a : Addr} {xs : List V} (h : H a = some (.lst xs)) : Thing H (.ref a)
  | tup {a : Addr} {xs : List V} (h : H a = some (.tup xs)) : Thing H (.ref a)
theorem Thing.mono {H H' : Hp} {v : V} (t : Thing H v) (e : Same H H') : Thing H' v := by
  cases t with
  | non => exact .non
  | bl b => exact .bl b
  | int i => exact .int i
  | str z h => exact .str z h
  | lst h => exact .lst (e _ _ h)
  | tup h => exact .tup (e _ _ h)
/-- is it a value (point 3) -/
def goodV : V → Bool
  | .non => true
  | .int i => decide (-1000000000 < i ∧ i < 1000000000)
  | .str z => decide (z.length ≤ 30 ∧ ∀ c ∈ tl z, chOk c)
  | _ => false
def kindOf : V → Str
  | .non => ""
  | .int _ => "int"
  | .bl _ => "int"
  | _ => "text"
def plainOf (k : Str) (b : Bool) : V := if b = true then .non else if k = ("int" : Str) then .int 0 else .str ""
def spIsValue : Sp := fun vs H Q _ => ∃ v, vs = [v] ∧ Thing H v ∧ ∀ H', Same H H' → Q (.bl (goodV v)) H'
def spIsText : Sp := fun vs H Q _ => ∃ z : Str, vs = [.str z] ∧ z.length ≤ 1000 ∧ ∀ H', Same H H' → Q (.bl (goodV (.str z))) H'
def spIsChar : Sp := fun vs H Q _ => ∃ c : Nat, vs = [.str (one c)] ∧ Q (.bl (decide (chOk c))) H
def spKindOf : Sp := fun vs H Q _ => ∃ v, vs = [v] ∧ isScal v = true ∧ Q (.str (kindOf v)) H
def spPlain : Sp := fun vs H Q _ => ∃ (k : Str) (b : Bool), vs = [.str k, .bl b] ∧ Q (plainOf k b) H
/-- what law(script) promises -/
def spLaw (K : PySem.W.Frag) : Sp := fun vs H Q _ => ∃ (a : Addr) (ns : List Int), vs = [.ref a] ∧ SqL K H a (ns.map V.int) ∧ ns.length ≤ 63 ∧ ∀ H', Q (.bl true) H'
def codeOk (c : Int) : Prop := 32 ≤ c ∧ c ≤ 126 ∧ c ≠ 37
instance (c : Int) : Decidable (codeOk c) := by unfold codeOk; exact inferInstance
/-- is_text_code -/
def spIsCode : Sp := fun vs H Q _ => ∃ c : Int, vs = [.int c] ∧ Q (.bl (decide (codeOk c))) H
end Lt

set_option autoImplicit false
namespace Lt
open PySem L2 TL
open C8 (pss_cut)
/-! ## data that stand still: tuples of tuples of plain values -/
inductive D where
  | s (v : V)
  | t (ds : List D)
mutual
inductive Tp (H : Hp) : V → D → Prop
  | s {v : V} (h : isScal v = true) : Tp H v (.s v)
  | t {a : Addr} {xs : List V} {ds : List D} (h : H a = some (.tup xs)) (r : TpL H xs ds) : Tp H (.ref a) (.t ds)
inductive TpL (H : Hp) : List V → List D → Prop
  | nil : TpL H [] []
  | cons {v : V} {d : D} {vs : List V} {ds : List D} (h : Tp H v d) (r : TpL H vs ds) : TpL H (v :: vs) (d :: ds)
end
/-- every tuple stands as it stood -/
def KeepT (H H' : Hp) : Prop := ∀ b xs, H b = some (.tup xs) → H' b = some (.tup xs)
theorem KeepT.refl (H : Hp) : KeepT H H := fun _ _ h => h
theorem KeepT.trans {H H1 H2 : Hp} (a : KeepT H H1) (b : KeepT H1 H2) : KeepT H H2 := fun c o h => b c o (a c o h)
theorem KeepT.of {H H1 : Hp} (a : Same H H1) : KeepT H H1 := fun c o h => a c _ h
theorem KeepT.ofX {t c : Addr} {cs : List Int} {H H1 : Hp} (T : TapeAt H t c cs) (a : SameX t H H1) : KeepT H H1 := fun b o h => a b _ h (by
  obtain ⟨_, _, _, _, e, _⟩ := T.dk
  exact ne_of h e (by intro z; cases z))
theorem KeepT.upd {H : Hp} {p : Addr} {o : HO} (h : ∀ xs, H p ≠ some (.tup xs)) : KeepT H (L2.upd H p o) := fun b xs e => by
  have ne : b ≠ p := by
    intro z
    subst z
    exact h xs e
  rw [upd_ne ne]; exact e
theorem KeepT.new {H : Hp} {p : Addr} (h : H p = none) (o : HO) : KeepT H (L2.upd H p o) := KeepT.of (same_new h o)
mutual
theorem Tp.mono {H H' : Hp} (k : KeepT H H') : ∀ {d : D} {v : V}, Tp H v d → Tp H' v d
  | .s _, _, h => by cases h with | s h => exact .s h
  | .t ds, _, h => by cases h with | t h r => exact .t (k _ _ h) (TpL.mono k r)
theorem TpL.mono {H H' : Hp} (k : KeepT H H') : ∀ {ds : List D} {vs : List V}, TpL H vs ds → TpL H' vs ds
  | [], _, h => by cases h; exact .nil
  | d :: ds, _, h => by cases h with | cons h r => exact .cons (Tp.mono k h) (TpL.mono k r)
end
theorem TpL.length {H : Hp} : ∀ {ds : List D} {vs : List V}, TpL H vs ds → vs.length = ds.length
  | [], _, h => by cases h; rfl
  | d :: ds, _, h => by cases h with | cons h r => rw [List.length_cons, List.length_cons, TpL.length r]
theorem TpL.get {H : Hp} : ∀ {ds : List D} {vs : List V} {i : Nat} {v : V}, TpL H vs ds → vs[i]? = some v → ∃ d, ds[i]? = some d ∧ Tp H v d
  | [], _, i, v, h, e => by cases h; simp at e
  | d :: ds, _, 0, v, h, e => by cases h with | cons h r => simp at e; subst e; exact ⟨d, rfl, h⟩
  | d :: ds, _, i + 1, v, h, e => by cases h with | cons h r => exact TpL.get (i := i) r (by simpa using e)
theorem TpL.get' {H : Hp} {ds : List D} {vs : List V} {i : Nat} {d : D} (h : TpL H vs ds) (e : ds[i]? = some d) : ∃ v, vs[i]? = some v ∧ Tp H v d := by
  have hl := h.length
  have hi : i < ds.length := (List.getElem?_eq_some_iff.mp e).1
  have ev : vs[i]? = some vs[i] := List.getElem?_eq_getElem (by omega)
  obtain ⟨d', e1, e2⟩ := h.get ev
  rw [e] at e1
  cases e1
  exact ⟨_, ev, e2⟩
theorem TpL.snoc {H : Hp} : ∀ {ds : List D} {vs : List V} {v : V} {d : D}, TpL H vs ds → Tp H v d → TpL H (vs ++ [v]) (ds ++ [d])
  | [], _, v, d, h, q => by cases h; exact .cons q .nil
  | d0 :: ds, _, v, d, h, q => by cases h with | cons h r => exact .cons h (TpL.snoc r q)
theorem TpL.scal {H : Hp} : ∀ {vs : List V}, (∀ v ∈ vs, isScal v = true) → TpL H vs (vs.map D.s)
  | [], _ => .nil
  | v :: vs, h => .cons (.s (h v List.mem_cons_self)) (TpL.scal fun x hx => h x (List.mem_cons_of_mem _ hx))

/-! ### columns, clauses, conditions -/
structure Col where
  n : Str
  k : Str
  b : Bool
def colD (c : Col) : D := .t [.s (.str c.n), .s (.str c.k), .s (.bl c.b)]
structure Cl where
  n : Str
  op : Str
  v : V
def clD (c : Cl) : D := .t [.s (.str c.n), .s (.str c.op), .s c.v]
abbrev Cond := List (List Cl)
def altD (a : List Cl) : D := .t (a.map clD)
def condD (c : Cond) : D := .t (c.map altD)
theorem col_at {H : Hp} {v : V} {c : Col} (h : Tp H v (colD c)) : ∃ a, v = .ref a ∧ H a = some (.tup [.str c.n, .str c.k, .bl c.b]) := by
  cases h with
  | t h r =>
    cases r with
    | cons h1 r => cases h1; cases r with
      | cons h2 r => cases h2; cases r with
        | cons h3 r => cases h3; cases r; exact ⟨_, rfl, h⟩
theorem col_mk {H : Hp} {a : Addr} {c : Col} (h : H a = some (.tup [.str c.n, .str c.k, .bl c.b])) : Tp H (.ref a) (colD c) :=
  .t h (.cons (.s rfl) (.cons (.s rfl) (.cons (.s rfl) .nil)))
theorem cl_at {H : Hp} {v : V} {c : Cl} (h : Tp H v (clD c)) : ∃ a, v = .ref a ∧ H a = some (.tup [.str c.n, .str c.op, c.v]) ∧ isScal c.v = true := by
  cases h with
  | t h r =>
    cases r with
    | cons h1 r => cases h1; cases r with
      | cons h2 r => cases h2; cases r with
        | cons h3 r => cases h3 with | s hs => cases r; exact ⟨_, rfl, h, hs⟩
theorem cl_mk {H : Hp} {a : Addr} {c : Cl} (h : H a = some (.tup [.str c.n, .str c.op, c.v])) (hs : isScal c.v = true) : Tp H (.ref a) (clD c) :=
  .t h (.cons (.s rfl) (.cons (.s rfl) (.cons (.s hs) .nil)))
theorem t_at {H : Hp} {v : V} {ds : List D} (h : Tp H v (.t ds)) : ∃ a xs, v = .ref a ∧ H a = some (.tup xs) ∧ TpL H xs ds := by
  cases h with
  | t h r => exact ⟨_, _, rfl, h, r⟩
/-! ### what a condition says of a row -/
def ltV : V → V → Bool
  | .int a, .int b => decide (a < b)
  | .str a, .str b => decide (tl a < tl b)
  | _, _ => false
def cmpM (v : V) (op : Str) (w : V) : Bool :=
  if op = ("=" : Str) then decide (v = w) else if op = ("!=" : Str) then !decide (v = w) else if op = ("<" : Str) then ltV v w
  else if op = ("<=" : Str) then !ltV w v else if op = (">" : Str) then ltV w v else !ltV v w
/-- two values that may be compared -/
def Alike (v w : V) : Prop := (∃ a b, v = .int a ∧ w = .int b) ∨ ∃ a b, v = .str a ∧ w = .str b
def at_ (names : List Str) (row : List V) (n : Str) : V := row.getD (names.idxOf n) .non
def clauseM (names : List Str) (row : List V) (c : Cl) : Bool :=
  if c.op = ("null" : Str) then decide (at_ names row c.n = .non) else if c.op = ("given" : Str) then !decide (at_ names row c.n = .non)
  else if at_ names row c.n = .non then false else cmpM (at_ names row c.n) c.op c.v
def altM (names : List Str) (row : List V) (a : List Cl) : Bool := a.all (clauseM names row)
def holdsM (names : List Str) (row : List V) (c : Cond) : Bool := c.any (altM names row)
/-- the clause can be asked of the row -/
def ClFit (names : List Str) (row : List V) (c : Cl) : Prop := c.n ∈ names ∧ (c.op = ("null" : Str) ∨ c.op = ("given" : Str) ∨ at_ names row c.n = .non ∨ Alike (at_ names row c.n) c.v)
theorem idx_str : ∀ {names : List Str} {n : Str}, n ∈ names → ∃ j, j = names.idxOf n ∧ j < names.length ∧ names[j]? = some n ∧ ∀ m x, m < j → names[m]? = some x → x ≠ n
  | [], n, h => by cases h
  | x :: r, n, h => by
    by_cases e : x = n
    · subst e
      exact ⟨0, by simp, by simp, rfl, fun m x hm => absurd hm (Nat.not_lt_zero _)⟩
    · have h' : n ∈ r := by
        rcases List.mem_cons.mp h with h | h
        · exact absurd h.symm e
        · exact h
      obtain ⟨j, e1, e2, e3, e4⟩ := idx_str h'
      refine ⟨j + 1, by rw [List.idxOf_cons, beq_false_of_ne e, ← e1]; rfl, by rw [List.length_cons]; omega, by simpa using e3, fun m y hm hy => ?_⟩
      match m, hm, hy with
      | 0, _, hy => simp at hy; subst hy; exact e
      | m + 1, hm, hy => exact e4 m y (by omega) (by simpa using hy)
theorem at_some {names : List Str} {row : List V} {n : Str} (h : n ∈ names) (hl : row.length = names.length) : row[names.idxOf n]? = some (at_ names row n) := by
  obtain ⟨j, e1, e2, _, _⟩ := idx_str h
  rw [← e1]
  unfold at_
  rw [← e1, List.getD_eq_getElem?_getD, List.getElem?_eq_getElem (by omega)]
  rfl
theorem list_lt (a b : List Nat) : (!decide (b < a)) = (decide (a < b) || decide (a = b)) := by
  have h : ¬ b < a ↔ (a < b ∨ a = b) := by rw [List.not_lt]; exact List.le_iff_lt_or_eq
  by_cases h1 : b < a
  · have h2 : ¬ (a < b ∨ a = b) := fun z => h.mpr z h1
    have h3 : ¬ a < b := fun z => h2 (.inl z)
    have h4 : ¬ a = b := fun z => h2 (.inr z)
    simp [h1, h3, h4]
  · rcases h.mp h1 with h2 | h2
    · simp [h1, h2]
    · simp [h1, h2]
theorem le_V {v w : V} (h : Alike v w) : (!ltV w v) = (ltV v w || decide (v = w)) := by
  rcases h with ⟨a, b, rfl, rfl⟩ | ⟨a, b, rfl, rfl⟩
  · unfold ltV
    by_cases h1 : b < a
    · have h2 : ¬ a < b := by omega
      have h3 : ¬ V.int a = V.int b := fun z => by cases z; omega
      simp [h1, h2]
      intro z; omega
    · by_cases h2 : a < b
      · simp [h1, h2]
      · have e : a = b := by omega
        simp [e]
  · unfold ltV
    rw [list_lt]
    have e : decide (tl a = tl b) = decide (V.str a = V.str b) := by
      by_cases h : a = b
      · subst h; simp
      · have h1 : ¬ tl a = tl b := fun z => h (ext_tl z)
        have h2 : ¬ V.str a = V.str b := fun z => h (V.str.inj z)
        rw [decide_eq_false h1, decide_eq_false h2]
    rw [e]
/-- one of two rules -/
theorem op_either {X : Cx} {f : Value → Value → Sem Value} {r1 r2 : R2} (h1 : OpR X f r1) (h2 : OpR X f r2) : OpR X f (fun x y H Q => r1 x y H Q ∨ r2 x y H Q) := by
  intro pins s σ H x y v u Q I rx ry h
  rcases h with h | h
  · exact h1 pins s σ H x y v u Q I rx ry h
  · exact h2 pins s σ H x y v u Q I rx ry h
/-- names.index(n) -/
theorem ix_names {names : List Str} {n : Str} (hn : n ∈ names) : ∃ z, (names.map V.str).all flatV = true ∧ (names.map V.str)[names.idxOf n]? = some z ∧ eqV z (.str n) = true ∧ ∀ (m : Nat) (z' : V), m < names.idxOf n → (names.map V.str)[m]? = some z' → eqV z' (.str n) = false := by
  obtain ⟨j, e1, e2, e3, e4⟩ := idx_str hn
  rw [← e1]
  refine ⟨.str n, ?_, ?_, ?_, ?_⟩
  · rw [List.all_eq_true]
    intro v hv
    obtain ⟨z, _, rfl⟩ := List.mem_map.mp hv
    rfl
  · rw [List.getElem?_map, e3]; rfl
  · show (n == n) = true; simp
  · intro m z hm hz
    rw [List.getElem?_map] at hz
    cases e : names[m]? with
    | none => rw [e] at hz; cases hz
    | some y =>
      rw [e] at hz
      cases hz
      have := e4 m y hm e
      show (y == n) = false
      simpa using this
/-- what a drawn value of a column is -/
def ValOf (k : Str) (b : Bool) (v : V) : Prop := (b = true ∧ v = .non) ∨ (k = ("int" : Str) ∧ ∃ i : Int, v = .int i ∧ -999999999 ≤ i ∧ i ≤ 999999999) ∨ (k ≠ ("int" : Str) ∧ ∃ z : Str, v = .str z ∧ z.length ≤ 30 ∧ ∀ c ∈ tl z, chOk c)
theorem ValOf.scal {k : Str} {b : Bool} {v : V} (h : ValOf k b v) : isScal v = true := by
  rcases h with ⟨_, rfl⟩ | ⟨_, i, rfl, _⟩ | ⟨_, z, rfl, _⟩ <;> rfl
theorem ValOf.alike {k : Str} {b : Bool} {v w : V} (h : ValOf k b v) (g : ValOf k false w) : v = .non ∨ Alike v w := by
  rcases h with ⟨_, rfl⟩ | ⟨k1, i, rfl, _⟩ | ⟨k1, z, rfl, _⟩
  · exact .inl rfl
  · rcases g with ⟨e, _⟩ | ⟨_, j, rfl, _⟩ | ⟨k2, _⟩
    · cases e
    · exact .inr (.inl ⟨_, _, rfl, rfl⟩)
    · exact absurd k1 k2
  · rcases g with ⟨e, _⟩ | ⟨k2, _⟩ | ⟨_, y, rfl, _⟩
    · cases e
    · exact absurd k2 k1
    · exact .inr (.inr ⟨_, _, rfl, rfl⟩)
end Lt

set_option autoImplicit false
namespace Lt
open PySem L2 TL
open C8 (pss_cut)
/-! ## what the laws draw -/
def SameXY (t u : Addr) (H H' : Hp) : Prop := ∀ b o, H b = some o → b ≠ t → b ≠ u → H' b = some o
theorem SameXY.refl (t u : Addr) (H : Hp) : SameXY t u H H := fun _ _ h _ _ => h
theorem SameXY.trans {t u : Addr} {H H1 H2 : Hp} (a : SameXY t u H H1) (b : SameXY t u H1 H2) : SameXY t u H H2 := fun c o h n m => b c o (a c o h n m) n m
theorem SameXY.ofX {t u : Addr} {H H1 : Hp} (a : SameX t H H1) : SameXY t u H H1 := fun c o h n _ => a c o h n
theorem SameXY.of {t u : Addr} {H H1 : Hp} (a : Same H H1) : SameXY t u H H1 := fun c o h _ _ => a c o h
theorem samexy_upd {t u : Addr} {H H1 : Hp} {p : Addr} (h : H p = none) (o : HO) (e : SameXY t u H H1) : SameXY t u H (upd H1 p o) := fun b v q n m => by rw [upd_ne (ne_of_none q h)]; exact e _ _ q n m
theorem SameXY.updY {t u : Addr} {H H1 : Hp} (o : HO) (e : SameXY t u H H1) : SameXY t u H (upd H1 u o) := fun b v q n m => by rw [upd_ne m]; exact e _ _ q n m
theorem TapeAt.fresh {H : Hp} {t c D : Addr} {cs : List Int} (T : TapeAt H t c cs) (h : H D = none) : D ≠ t ∧ c ≠ D := by
  obtain ⟨_, _, _, _, e, _⟩ := T.dk
  exact ⟨(ne_of_none e h).symm, ne_of_none T.ls h⟩
theorem TapeAt.notL {H : Hp} {t c D : Addr} {cs : List Int} {xs : List V} (T : TapeAt H t c cs) (h : H D = some (.lst xs)) : D ≠ t := by
  obtain ⟨_, _, _, _, e, _⟩ := T.dk
  exact ne_of h e (by intro z; cases z)
theorem KeepT.ofXY {t u c : Addr} {cs : List Int} {H H1 : Hp} {us : List V} (T : TapeAt H t c cs) (hu : H u = some (.lst us)) (a : SameXY t u H H1) : KeepT H H1 := fun b o h => by
  obtain ⟨_, _, _, _, e, _⟩ := T.dk
  exact a b _ h (ne_of h e (by intro z; cases z)) (ne_of h hu (by intro z; cases z))
theorem tl_int (i : Int) : tl (Str.ofString (toString i)) = if i < 0 then 45 :: numL i.natAbs else numL i.natAbs := by
  cases i with
  | ofNat n =>
    rw [if_neg (by show ¬ ((n : Int) < 0); omega)]
    exact tl_num n
  | negSucc n =>
    rw [if_pos (Int.negSucc_lt_zero n)]
    have e : toString (Int.negSucc n) = "-" ++ toString (((n + 1 : Nat) : Int)) := rfl
    rw [e, tl_ofString, String.toList_append, List.map_append, ← tl_ofString, ← tl_ofString, tl_num]
    rfl
theorem num_chars (n : Nat) : ∀ c ∈ numL n, 48 ≤ c ∧ c ≤ 57 := fun c h => numL_digits n c h
theorem int_text {i : Int} (h1 : -999999999 ≤ i) (h2 : i ≤ 999999999) : (Str.ofString (toString i)).length ≤ 10 ∧ ∀ c ∈ tl (Str.ofString (toString i)), c = 45 ∨ (48 ≤ c ∧ c ≤ 57) := by
  have hl : (numL i.natAbs).length ≤ 9 := numL_len (by decide) (by omega)
  constructor
  · rw [len_tl, tl_int]
    split
    · rw [List.length_cons]; omega
    · omega
  · intro c hc
    rw [tl_int] at hc
    split at hc
    · rcases List.mem_cons.mp hc with h | h
      · exact .inl h
      · exact .inr (num_chars _ _ h)
    · exact .inr (num_chars _ _ hc)
theorem log_small {i : Int} (h1 : -999999999 ≤ i) (h2 : i ≤ 999999999) : i.natAbs.log2 < 1920 := by
  have : i.natAbs < 2 ^ 30 := by omega
  exact Nat.lt_of_lt_of_le (PySem.Flt.log2_lt_of (by decide) this) (by decide)
theorem digit_ok {c : Nat} (h : c = 45 ∨ (48 ≤ c ∧ c ≤ 57)) : chOk c := by unfold chOk; omega
/-- _law_value -/
def spVal : Sp := fun vs H Q _ => ∃ (t c : Addr) (cs : List Int) (k : Str) (b : Bool), vs = [.ref t, .str k, .bl b] ∧ TapeAt H t c cs ∧ ∀ v H', ValOf k b v → TapeAt H' t c cs → SameX t H H' → Q v H'
/-! ### names -/
def nmCh (c : Nat) : Prop := (97 ≤ c ∧ c ≤ 122) ∨ (48 ≤ c ∧ c ≤ 57) ∨ c = 95
instance (c : Nat) : Decidable (nmCh c) := by unfold nmCh; exact inferInstance
def nameOk (z : Str) : Prop := z.length ≤ 20 ∧ (∃ c r, tl z = c :: r ∧ 97 ≤ c ∧ c ≤ 122) ∧ ∀ c ∈ tl z, nmCh c
theorem nmCh.ok {c : Nat} (h : nmCh c) : chOk c := by unfold nmCh at h; unfold chOk; omega
/-- each of i names of the list us begins with one of the first i letters, no two alike -/
def Hit (us : List Str) (i : Nat) : Prop := ∃ ws : List Str, ws.length = i ∧ ws.Nodup ∧ ∀ v ∈ ws, v ∈ us ∧ ∃ j r, j < i ∧ tl v = (97 + j) :: r
theorem Hit.step {us : List Str} {i : Nat} (h : Hit us i) {z : Str} {r : List Nat} (e : tl z = (97 + i) :: r) : z ∉ us ∨ Hit us (i + 1) := by
  obtain ⟨ws, h1, h2, h3⟩ := h
  by_cases hz : z ∈ us
  · refine .inr ⟨z :: ws, by rw [List.length_cons, h1], List.nodup_cons.mpr ⟨fun hw => ?_, h2⟩, fun v hv => ?_⟩
    · obtain ⟨_, j, r', hj, e'⟩ := h3 z hw
      rw [e] at e'
      have := (List.cons.inj e').1
      omega
    · rcases List.mem_cons.mp hv with rfl | hv
      · exact ⟨hz, i, r, by omega, e⟩
      · obtain ⟨a, j, r', hj, e'⟩ := h3 v hv
        exact ⟨a, j, r', by omega, e'⟩
  · exact .inl hz
theorem Hit.no {us : List Str} {i : Nat} (h : Hit us i) (hl : us.length < i) : False := by
  obtain ⟨ws, h1, h2, h3⟩ := h
  have := List.Nodup.length_le_of_subset h2 (fun v hv => (h3 v hv).1)
  omega
theorem inV_str (z : Str) (us : List Str) : inV (.str z) (us.map V.str) = decide (z ∈ us) := by
  unfold inV
  rw [Bool.eq_iff_iff, List.any_eq_true, decide_eq_true_iff]
  constructor
  · rintro ⟨v, hv, e⟩
    obtain ⟨y, hy, rfl⟩ := List.mem_map.mp hv
    have : y = z := by simpa [eqV] using e
    rw [← this]; exact hy
  · intro h
    exact ⟨.str z, List.mem_map.mpr ⟨z, h, rfl⟩, by simp [eqV]⟩
theorem flat_strs (us : List Str) : (us.map V.str).all flatV = true := by
  rw [List.all_eq_true]
  intro v hv
  obtain ⟨y, _, rfl⟩ := List.mem_map.mp hv
  rfl
def spName : Sp := fun vs H Q _ => ∃ (t c u : Addr) (cs : List Int) (us : List Str), vs = [.ref t, .ref u] ∧ TapeAt H t c cs ∧ H u = some (.lst (us.map V.str)) ∧ u ≠ c ∧ us.length ≤ 25 ∧
  ∀ z H', nameOk z → z ∉ us → TapeAt H' t c cs → H' u = some (.lst ((us ++ [z]).map V.str)) → SameXY t u H H' → Q (.str z) H'
/-! ### columns -/
def colNs (cols : List Col) : List Str := cols.map (·.n)
structure ColsOk (us : List Str) (cols : List Col) : Prop where
  nd : (colNs cols).Nodup
  fr : ∀ n ∈ colNs cols, n ∉ us ∧ nameOk n
  kd : ∀ c ∈ cols, c.k = ("int" : Str) ∨ c.k = ("text" : Str)
  hd : ∀ c, cols[0]? = some c → c.b = false
def spColumns : Sp := fun vs H Q _ => ∃ (t c u : Addr) (cs : List Int) (us : List Str) (many : Int), vs = [.ref t, .ref u, .int many] ∧ TapeAt H t c cs ∧ H u = some (.lst (us.map V.str)) ∧ u ≠ c ∧ 0 ≤ many ∧ many ≤ 8 ∧ (us.length : Int) + many ≤ 25 ∧
  ∀ L cols xs H', H L = none → H' L = some (.lst xs) → TpL H' xs (cols.map colD) → (cols.length : Int) = many + 1 → ColsOk us cols → TapeAt H' t c cs → H' u = some (.lst ((us ++ colNs cols).map V.str)) → SameXY t u H H' → Q (.ref L) H'
/-- a list of columns stands at L -/
def ColsAt (H : Hp) (L : Addr) (cols : List Col) : Prop := ∃ xs, H L = some (.lst xs) ∧ TpL H xs (cols.map colD)
theorem ColsAt.mono {H H' : Hp} {L : Addr} {cols : List Col} (h : ColsAt H L cols) (k : KeepT H H') (e : ∀ o, H L = some o → H' L = some o) : ColsAt H' L cols := by
  obtain ⟨xs, h1, h2⟩ := h
  exact ⟨xs, e _ h1, h2.mono k⟩
theorem ColsAt.get {H : Hp} {L : Addr} {cols : List Col} (h : ColsAt H L cols) {i : Nat} {col : Col} (e : cols[i]? = some col) : ∃ xs a, H L = some (.lst xs) ∧ xs[i]? = some (.ref a) ∧ H a = some (.tup [.str col.n, .str col.k, .bl col.b]) := by
  obtain ⟨xs, h1, h2⟩ := h
  obtain ⟨v, e1, e2⟩ := h2.get' (i := i) (d := colD col) (by rw [List.getElem?_map, e]; rfl)
  obtain ⟨a, rfl, e3⟩ := col_at e2
  exact ⟨xs, a, h1, e1, e3⟩
def spNames : Sp := fun vs H Q _ => ∃ (L : Addr) (cols : List Col), vs = [.ref L] ∧ ColsAt H L cols ∧ cols.length ≤ 100 ∧ ∀ N H', H N = none → Same H H' → H' N = some (.lst ((colNs cols).map V.str)) → Q (.ref N) H'
/-- the values of a row behind the key -/
def RestOf (cols : List Col) (vs : List V) : Prop := vs.length + 1 = cols.length ∧ ∀ (i : Nat) (col : Col) (v : V), cols[i + 1]? = some col → vs[i]? = some v → ValOf col.k col.b v
def spRest : Sp := fun vs H Q _ => ∃ (t c L : Addr) (cs : List Int) (cols : List Col), vs = [.ref t, .ref L] ∧ TapeAt H t c cs ∧ ColsAt H L cols ∧ 0 < cols.length ∧ cols.length ≤ 100 ∧
  ∀ p ws H', H p = none → H' p = some (.tup ws) → RestOf cols ws → TapeAt H' t c cs → SameX t H H' → Q (.ref p) H'
/-! ### clauses and conditions -/
def ClOk (cols : List Col) (cl : Cl) : Prop := PyData.strOk cl.op = true ∧ ∃ col ∈ cols, cl.n = col.n ∧ (((cl.op = ("null" : Str) ∨ cl.op = ("given" : Str)) ∧ cl.v = .non) ∨
  ((cl.op ≠ ("null" : Str) ∧ cl.op ≠ ("given" : Str)) ∧ ValOf col.k false cl.v))
theorem ClOk.scal {cols : List Col} {cl : Cl} (h : ClOk cols cl) : isScal cl.v = true := by
  obtain ⟨_, col, _, _, ⟨_, e⟩ | ⟨_, e⟩⟩ := h
  · rw [e]; rfl
  · exact e.scal
def spClause : Sp := fun vs H Q _ => ∃ (t c L : Addr) (cs : List Int) (cols : List Col), vs = [.ref t, .ref L] ∧ TapeAt H t c cs ∧ ColsAt H L cols ∧ 0 < cols.length ∧ cols.length ≤ 100 ∧
  ∀ v cl H', Tp H' v (clD cl) → ClOk cols cl → TapeAt H' t c cs → SameX t H H' → Q v H'
def spCond : Sp := fun vs H Q _ => ∃ (t c L : Addr) (cs : List Int) (cols : List Col), vs = [.ref t, .ref L] ∧ TapeAt H t c cs ∧ ColsAt H L cols ∧ 0 < cols.length ∧ cols.length ≤ 100 ∧
  ∀ v cond H', Tp H' v (condD cond) → (∀ a ∈ cond, ∀ cl ∈ a, ClOk cols cl) → cond.length ≤ 4 → (∀ a ∈ cond, a.length ≤ 4) → TapeAt H' t c cs → SameX t H H' → Q v H'
theorem at_ofN {α : Type} {xs : List α} {z : Int} {j : Nat} {v : α} (e : z = (j : Int)) (h : xs[j]? = some v) : atI xs z = some v := by rw [e]; exact atI_nat h
theorem getD_some {vs : List V} {i : Nat} {v : V} (h : vs[i]? = some v) : vs.getD i .non = v := by rw [List.getD_eq_getElem?_getD, h]; rfl
theorem fit_of {cols : List Col} {row : List V} (nd : (colNs cols).Nodup) (hl : row.length = cols.length) (hv : ∀ (i : Nat) (col : Col) (v : V), cols[i]? = some col → row[i]? = some v → ValOf col.k col.b v) {cl : Cl} (h : ClOk cols cl) : ClFit (colNs cols) row cl := by
  obtain ⟨_, col, hc, e, h⟩ := h
  have hn : cl.n ∈ colNs cols := by rw [e]; exact List.mem_map.mpr ⟨col, hc, rfl⟩
  refine ⟨hn, ?_⟩
  rcases h with ⟨h, _⟩ | ⟨_, hw⟩
  · rcases h with h | h
    · exact .inl h
    · exact .inr (.inl h)
  · obtain ⟨j, e1, e2, e3, _⟩ := idx_str hn
    have hj : j < cols.length := by unfold colNs at e2; rwa [List.length_map] at e2
    have ec : cols[j]? = some cols[j] := List.getElem?_eq_getElem hj
    have en : cols[j].n = col.n := by
      unfold colNs at e3
      rw [List.getElem?_map, ec] at e3
      exact (Option.some.inj e3).trans e
    have eq : cols[j] = col := by
      obtain ⟨i, hi, ei⟩ := List.getElem_of_mem hc
      have a1 : (colNs cols)[i]? = some col.n := by unfold colNs; rw [List.getElem?_map, List.getElem?_eq_getElem hi, ei]; rfl
      have a2 : (colNs cols)[j]? = some col.n := by unfold colNs; rw [List.getElem?_map, ec]; exact congrArg some en
      have := nd_ix nd a1 a2
      subst this
      exact ei
    have er : row[j]? = some row[j] := List.getElem?_eq_getElem (by omega)
    have ea : at_ (colNs cols) row cl.n = row[j] := by unfold at_; rw [← e1]; exact getD_some er
    rw [ea]
    have := (hv j col row[j] (by rw [ec, eq]) er).alike hw
    exact .inr (.inr this)
theorem alike_self {v w : V} (h : Alike v w) : Alike v v := by
  rcases h with ⟨a, b, rfl, rfl⟩ | ⟨a, b, rfl, rfl⟩
  · exact .inl ⟨a, a, rfl, rfl⟩
  · exact .inr ⟨a, a, rfl, rfl⟩
theorem cut_tail (xs : List V) : cutV xs (some 1) none = xs.drop 1 := by
  unfold cutV
  have e1 : HT.sIx xs.length 0 (some 1) = min 1 xs.length := HT.sIx_nat _ _ 1
  have e2 : HT.sIx xs.length xs.length none = xs.length := rfl
  rw [e1, e2]
  cases xs with
  | nil => rfl
  | cons x r =>
    have e3 : min 1 (x :: r).length = 1 := by rw [List.length_cons]; omega
    rw [e3, List.take_of_length_le (by rw [List.length_drop]; omega)]
end Lt

set_option autoImplicit false
namespace Lt
open PySem L2 TL
open C8 (pss_cut)
/-! ## numbers as texts -/
theorem takes_no {X : Cx} : Takes X (fun _ _ _ _ => False) := fun u s' h => by
  obtain ⟨_, _, _, _, _, _, _, _, _, _, _, _, _, _, _, _, bad⟩ := h
  exact bad.elim
def dgL (L : List Nat) : List Nat := if L.head? = some 45 then L.tail else L
def numI (L : List Nat) : Int := if L.head? = some 45 then -((NumText.digitsVal (dgL L) : Nat) : Int) else ((NumText.digitsVal (dgL L) : Nat) : Int)
def shape (L : List Nat) : Prop := dgL L ≠ [] ∧ (dgL L).length ≤ 9 ∧ NumText.AllDigits (dgL L)
def canon (L : List Nat) : Prop := shape L ∧ ((dgL L).head? = some 48 → L = [48])
instance (l : List Nat) : Decidable (NumText.AllDigits l) := by unfold NumText.AllDigits; exact inferInstance
instance (L : List Nat) : Decidable (shape L) := by unfold shape; exact inferInstance
instance (L : List Nat) : Decidable (canon L) := by unfold canon; exact inferInstance
theorem val_snoc (l : List Nat) (d : Nat) : NumText.digitsVal (l ++ [d]) = NumText.digitsVal l * 10 + (d - 48) := by
  unfold NumText.digitsVal
  rw [List.foldl_append]
  rfl
theorem fold_pos : ∀ (l : List Nat) (a : Nat), 1 ≤ a → 1 ≤ l.foldl (fun acc c => acc * 10 + (c - 48)) a
  | [], a, h => h
  | c :: r, a, h => fold_pos r (a * 10 + (c - 48)) (by omega)
theorem val_pos {l : List Nat} (h : NumText.AllDigits l) (hn : l ≠ []) (h0 : l.head? ≠ some 48) : 1 ≤ NumText.digitsVal l := by
  cases l with
  | nil => exact absurd rfl hn
  | cons c r =>
    have hc := h.head
    have : c ≠ 48 := fun e => h0 (by rw [e]; rfl)
    unfold NumText.digitsVal
    rw [List.foldl_cons]
    exact fold_pos r (0 * 10 + (c - 48)) (by omega)
theorem num_of : ∀ (n : Nat) (l : List Nat), l.length = n → NumText.AllDigits l → l ≠ [] → l.head? ≠ some 48 → numL (NumText.digitsVal l) = l := by
  intro n
  induction n with
  | zero => intro l hl _ hn; exact absurd (List.eq_nil_of_length_eq_zero hl) hn
  | succ n ih =>
    intro l hl h hn h0
    have e := List.dropLast_concat_getLast hn
    generalize l.getLast hn = d at e
    generalize l.dropLast = l' at e
    subst e
    have hd : 48 ≤ d ∧ d ≤ 57 := h d (by simp)
    rw [val_snoc]
    by_cases e0 : l' = []
    · subst e0
      have hd0 : d ≠ 48 := fun z => h0 (by rw [z]; rfl)
      have ev : NumText.digitsVal [] * 10 + (d - 48) = d - 48 := by show 0 * 10 + (d - 48) = d - 48; omega
      rw [ev, numL_lt (by omega)]
      show [48 + (d - 48)] = [d]
      rw [show 48 + (d - 48) = d by omega]
    · have h' : NumText.AllDigits l' := fun c hc => h c (List.mem_append.mpr (.inl hc))
      have h0' : l'.head? ≠ some 48 := by
        cases l' with
        | nil => exact absurd rfl e0
        | cons a r => exact h0
      have pos := val_pos h' e0 h0'
      have hl' : l'.length = n := by rw [List.length_append] at hl; simpa using hl
      rw [numL_step (by omega)]
      have e1 : (NumText.digitsVal l' * 10 + (d - 48)) / 10 = NumText.digitsVal l' := by omega
      have e2 : 48 + (NumText.digitsVal l' * 10 + (d - 48)) % 10 = d := by omega
      rw [e1, e2, ih l' hl' h' e0 h0']
theorem num_head (n : Nat) (h : 1 ≤ n) : (numL n).head? ≠ some 48 := by
  induction n using Nat.strongRecOn with
  | _ n ih =>
    by_cases h1 : n < 10
    · rw [numL_lt h1]
      intro e
      have := Option.some.inj e
      omega
    · rw [numL_step (by omega)]
      have := ih (n / 10) (by omega) (by omega)
      cases e : numL (n / 10) with
      | nil => exact absurd e (numL_ne _)
      | cons a r => rw [e] at this; exact this
theorem num_zero : numL 0 = [48] := numL_lt (by decide)
/-- the number written down again is the text exactly if the text is canonical -/
theorem canon_iff {L : List Nat} (h : shape L) : tl (Str.ofString (toString (numI L))) = L ↔ canon L := by
  obtain ⟨h1, h2, h3⟩ := id h
  rw [tl_int]
  by_cases hs : L.head? = some 45
  · have eL : L = 45 :: dgL L := by
      unfold dgL
      rw [if_pos hs]
      cases L with
      | nil => cases hs
      | cons a r => cases hs; rfl
    have en : numI L = -((NumText.digitsVal (dgL L) : Nat) : Int) := by unfold numI; rw [if_pos hs]
    rw [en]
    generalize hD : dgL L = D at *
    by_cases h0 : D.head? = some 48
    · have nc : ¬ canon L := fun c => by
        have := c.2 (by rw [hD]; exact h0)
        rw [this] at hs
        cases hs
      refine iff_of_false ?_ nc
      intro e
      by_cases hv : NumText.digitsVal D = 0
      · rw [hv] at e
        rw [if_neg (by decide)] at e
        have e' : numL 0 = L := e
        rw [num_zero] at e'
        rw [← e'] at hs
        cases hs
      · rw [if_pos (by omega), Int.natAbs_neg, Int.natAbs_natCast, eL] at e
        have e1 := (List.cons.inj e).2
        exact num_head _ (by omega) (e1 ▸ h0)
    · refine iff_of_true ?_ ⟨h, fun z => absurd (by rw [hD] at z; exact z) h0⟩
      have := val_pos h3 h1 h0
      rw [if_pos (by omega), Int.natAbs_neg, Int.natAbs_natCast, num_of _ D rfl h3 h1 h0]
      exact eL.symm
  · have eL : dgL L = L := by unfold dgL; rw [if_neg hs]
    have en : numI L = ((NumText.digitsVal L : Nat) : Int) := by unfold numI; rw [if_neg hs, eL]
    rw [en, if_neg (by omega), Int.natAbs_natCast]
    unfold canon
    rw [eL] at h1 h2 h3 ⊢
    by_cases h0 : L.head? = some 48
    · constructor
      · intro e
        refine ⟨h, fun _ => ?_⟩
        by_cases hv : NumText.digitsVal L = 0
        · rw [hv, num_zero] at e; exact e.symm
        · exact absurd (e ▸ h0) (num_head _ (by omega))
      · rintro ⟨_, c⟩
        rw [c h0]
        decide +kernel
    · exact iff_of_true (num_of _ L rfl h3 h1 h0) ⟨h, fun z => absurd z h0⟩
theorem int_of {z : Str} (h : shape (tl z)) : intText? z = some (numI (tl z)) := by
  obtain ⟨h1, h2, h3⟩ := id h
  by_cases hs : (tl z).head? = some 45
  · have eL : tl z = 45 :: dgL (tl z) := by
      unfold dgL
      rw [if_pos hs]
      cases e : tl z with
      | nil => rw [e] at hs; cases hs
      | cons a r => rw [e] at hs; cases hs; rfl
    have l : z.length ≤ 4300 := by rw [len_tl, eL, List.length_cons]; omega
    have e := intText_neg (x := z) eL h3 h1 l
    rw [e]
    unfold numI
    rw [if_pos hs]
  · have eL : dgL (tl z) = tl z := by unfold dgL; rw [if_neg hs]
    rw [eL] at h1 h2 h3
    have e := intText_digits (x := z) h3 h1 (by rw [len_tl]; omega)
    rw [e]
    unfold numI
    rw [if_neg hs, eL]
theorem len_shape {z : Str} (h : shape (tl z)) : z.length ≤ 10 := by
  obtain ⟨_, h2, _⟩ := h
  rw [len_tl]
  unfold dgL at h2
  split at h2
  · rw [List.length_tail] at h2; omega
  · omega
theorem small_num {L : List Nat} (h : shape L) : -999999999 ≤ numI L ∧ numI L ≤ 999999999 := by
  obtain ⟨_, h2, h3⟩ := h
  have b : ∀ (l : List Nat), NumText.AllDigits l → NumText.digitsVal l < 10 ^ l.length := by
    intro l
    have g : ∀ (n : Nat) (l : List Nat), l.length = n → NumText.AllDigits l → NumText.digitsVal l < 10 ^ n := by
      intro n
      induction n with
      | zero => intro l hl _; rw [List.eq_nil_of_length_eq_zero hl]; decide
      | succ n ih =>
        intro l hl h
        have hn : l ≠ [] := by intro z; rw [z] at hl; cases hl
        have e := List.dropLast_concat_getLast hn
        generalize l.getLast hn = d at e
        generalize l.dropLast = l' at e
        subst e
        have hd : 48 ≤ d ∧ d ≤ 57 := h d (by simp)
        have hl' : l'.length = n := by rw [List.length_append] at hl; simpa using hl
        have := ih l' hl' (fun c hc => h c (List.mem_append.mpr (.inl hc)))
        rw [val_snoc, Nat.pow_succ]
        omega
    exact g l.length l rfl
  have h4 := b _ h3
  have h5 : (10 : Nat) ^ (dgL L).length ≤ 10 ^ 9 := Nat.pow_le_pow_right (by decide) h2
  have h6 : NumText.digitsVal (dgL L) ≤ 999999999 := by
    have : (10 : Nat) ^ 9 = 1000000000 := by decide
    omega
  unfold numI
  split <;> omega
theorem dec_ascii : ∀ c : Nat, c < 127 → Unicode.isDecimal c = decide (48 ≤ c ∧ c ≤ 57) := by decide +kernel
theorem isdec {z : Str} (h : ∀ c ∈ tl z, chOk c) : Txt.isdecimal z = decide (tl z ≠ [] ∧ NumText.AllDigits (tl z)) := by
  unfold PySem.Txt.isdecimal
  rw [← Array.all_toList, Bool.eq_iff_iff, Bool.and_eq_true, decide_eq_true_iff, List.all_eq_true, decide_eq_true_iff]
  have e : z.length = (tl z).length := len_tl z
  constructor
  · rintro ⟨a, b⟩
    refine ⟨fun z0 => by rw [z0] at e; simp at e; omega, fun c hc => ?_⟩
    have := b c hc
    rw [dec_ascii c (by have := (h c hc).2.1; omega)] at this
    exact of_decide_eq_true this
  · rintro ⟨a, b⟩
    refine ⟨by have := List.length_pos_iff.mpr a; omega, fun c hc => ?_⟩
    rw [dec_ascii c (by have := (h c hc).2.1; omega)]
    exact decide_eq_true (b c hc)
theorem tl_dash : tl ("-" : Str) = [45] := by decide +kernel
theorem tl_remove (z : Str) : tl (Txt.removeprefix z ("-" : Str)) = dgL (tl z) := by
  have l1 : ("-" : Str).length = 1 := by decide +kernel
  have hsub : Builtin.Str.subAt z ("-" : Str) 0 = decide ((tl z).head? = some 45) := by
    rw [PySem.StrLaws.subAt_eq, l1, List.drop_zero]
    show ((tl z).take 1 == tl ("-" : Str)) = _
    rw [tl_dash]
    cases e : tl z with
    | nil => simp
    | cons a r =>
      by_cases h : a = 45
      · subst h; rfl
      · simp [h]
  unfold PySem.Txt.removeprefix PySem.Txt.affix dgL
  rw [hsub, l1]
  by_cases h : (tl z).head? = some 45
  · rw [if_pos (decide_eq_true h), if_pos h]
    have hp : 0 < z.length := by
      rw [len_tl]
      cases e : tl z with
      | nil => rw [e] at h; cases h
      | cons a r => simp
    have ne : (z.length - 1 == z.length) = false := by simp; omega
    show tl (if (z.length - 1 == z.length) = true then z else Builtin.Str.strSub z 1 z.length) = _
    rw [ne, if_neg Bool.false_ne_true, tl_strSub, List.take_of_length_le (by rw [List.length_drop, len_tl]; omega)]
    exact List.drop_one
  · rw [if_neg (by simpa using h), if_neg h]
theorem tl_cut1 (z : Str) : tl (cutS z none (some 1)) = (tl z).take 1 := by
  have e : tl (cutS z none (some 1)) = ((tl z).drop (HT.sIx z.length 0 none)).take (HT.sIx z.length z.length (some 1) - HT.sIx z.length 0 none) := by simp [tl, cutS]
  have e1 : HT.sIx z.length z.length (some 1) = min 1 z.length := HT.sIx_nat _ _ 1
  rw [e, e1]
  show ((tl z).drop 0).take (min 1 z.length - 0) = _
  rw [List.drop_zero, Nat.sub_zero, len_tl]
  cases tl z with
  | nil => rfl
  | cons a r => rw [show min 1 (a :: r).length = 1 by rw [List.length_cons]; omega]
theorem tl_cut2 (z : Str) : tl (cutS z (some 1) none) = (tl z).drop 1 := by
  have e : tl (cutS z (some 1) none) = ((tl z).drop (HT.sIx z.length 0 (some 1))).take (HT.sIx z.length z.length none - HT.sIx z.length 0 (some 1)) := by simp [tl, cutS]
  have e1 : HT.sIx z.length 0 (some 1) = min 1 z.length := HT.sIx_nat _ _ 1
  rw [e, e1]
  show ((tl z).drop (min 1 z.length)).take (z.length - min 1 z.length) = _
  rw [len_tl]
  cases tl z with
  | nil => rfl
  | cons a r =>
    rw [show min 1 (a :: r).length = 1 by rw [List.length_cons]; omega, List.take_of_length_le (by rw [List.length_drop]; omega)]
theorem first_dash (z : Str) : (cutS z none (some 1) = ("-" : Str)) ↔ (tl z).head? = some 45 := by
  constructor
  · intro e
    have e1 := congrArg tl e
    rw [tl_cut1, tl_dash] at e1
    cases h : tl z with
    | nil => rw [h] at e1; cases e1
    | cons a r => rw [h] at e1; simp at e1; rw [e1]; rfl
  · intro e
    refine ext_tl ?_
    rw [tl_cut1, tl_dash]
    cases h : tl z with
    | nil => rw [h] at e; cases e
    | cons a r => rw [h] at e; cases e; rfl
theorem digit_in : ∀ k : Nat, k < 10 → Txt.index0 ("0123456789" : Str) (one (48 + k)) = some k := by decide +kernel
theorem digits_tl : ∀ c : Nat, c < 127 → (c ∈ ("0123456789" : Str).cps.toList ↔ (48 ≤ c ∧ c ≤ 57)) := by decide +kernel
end Lt

set_option autoImplicit false
namespace Lt
open PySem L2 TL
open C8 (pss_cut)
/-! ## walks within comprehensions; tuples cut and joined; data that are the same -/
theorem inner {J : It} {n : Nat} {G : Hp → Prop} {Y : Nat → Hp → V → Hp → Prop} (wk : Walk J n G Y) {B : V → Hp → (Hp → Prop) → Prop} {Ha : Hp} {Nx : Hp → Prop} (Pv : Nat → Hp → Prop)
    (h0 : Pv 0 Ha) (hG : ∀ i Hb, i ≤ n → Pv i Hb → G Hb) (hs : ∀ i x Hb Hc, i < n → Pv i Hb → Y i Hb x Hc → B x Hc (Pv (i + 1))) (hd : ∀ Hb, Pv n Hb → Nx Hb) :
    ∃ W : Nat → Nat → Hp → Prop, (∃ m, W 0 m Ha) ∧ ∀ j k Hb, W j k Hb → (J.stop j Hb ∧ Nx Hb) ∨ (J.go j Hb ∧ ∃ N : Hp → Prop, (∀ Hc, N Hc → ∃ k', k' < k ∧ W (j + 1) k' Hc) ∧ ∀ x Hc, J.yld j Hb x Hc → B x Hc N) := by
  refine ⟨fun j left Hb => left + j = n ∧ Pv j Hb, ⟨n, Nat.add_zero n, h0⟩, fun j left Hb hw => ?_⟩
  obtain ⟨e, p⟩ := hw
  have g := hG j Hb (by omega) p
  rcases Nat.eq_zero_or_pos left with z | z
  · have ej : j = n := by omega
    subst ej
    exact .inl ⟨wk.stops Hb g, hd Hb p⟩
  · have lt : j < n := by omega
    exact .inr ⟨wk.goes j Hb lt g, Pv (j + 1), fun Hc pc => ⟨left - 1, by omega, by omega, pc⟩, fun x Hc y => hs j x Hb Hc lt p (wk.yields j Hb x Hc lt g y)⟩
def rTup (K : PySem.W.Frag) : List V → Hp → VK → Prop := fun xs H Q => ∃ p ys, xs = [.ref p] ∧ ((SqL K H p ys ∧ ∀ l, H l = none → Q (.ref l) (upd H l (.tup ys))) ∨ (SqT K H p ys ∧ Q (.ref p) H))
theorem ct {X : Cx} : CallR X (.type "tuple") (rTup X.K) := call_tuple_of
theorem cat_any {K : PySem.W.Frag} {H : Hp} {Q : VK} {a b : Addr} {xs ys : List V} (ha : H a = some (.tup xs)) (hb : H b = some (.tup ys)) (hl : xs.length + ys.length ≤ 1000)
    (q : ∀ p H', H' p = some (.tup (xs ++ ys)) → Same H H' → Q (.ref p) H') : rCatA K (.ref a) (.ref b) H Q := by
  refine ⟨a, b, xs, ys, rfl, rfl, SqT.of ha, SqT.of hb, Nat.le_of_lt (small1000 hl), fun e => ?_, fun _ e => ?_, fun _ _ p hp => q p _ upd_same (same_new hp _)⟩
  · subst e; exact q b H hb (Same.refl _)
  · subst e; exact q a H (by rw [List.append_nil]; exact ha) (Same.refl _)
theorem cut_any {K : PySem.W.Frag} {H : Hp} {Q : VK} {a : Addr} {xs : List V} {lo hi : Option Int} (ha : H a = some (.tup xs))
    (q : ∀ p H', H' p = some (.tup (cutV xs lo hi)) → Same H H' → Q (.ref p) H') : rSlA K (.ref a) lo hi H Q := by
  refine ⟨a, xs, rfl, SqT.of ha, fun e => ?_, fun _ p hp => q p _ upd_same (same_new hp _)⟩
  refine q a H ?_ (Same.refl _)
  rw [ha]
  unfold cutV
  rw [e.1, e.2, List.drop_zero, Nat.sub_zero, List.take_length]
theorem cut_front (xs : List V) (j : Nat) (h : j ≤ xs.length) : cutV xs none (some (j : Int)) = xs.take j := by
  unfold cutV
  rw [HT.sIx_nat, HT.sIx_none, List.drop_zero, Nat.sub_zero, Nat.min_eq_left h]
theorem cut_back (xs : List V) (j : Nat) (h : j ≤ xs.length) : cutV xs (some (j : Int)) none = xs.drop j := by
  unfold cutV
  rw [HT.sIx_nat, HT.sIx_none, Nat.min_eq_left h, List.take_of_length_le (by rw [List.length_drop]; omega)]
theorem TpL.take {H : Hp} : ∀ {ds : List D} {vs : List V} (n : Nat), TpL H vs ds → TpL H (vs.take n) (ds.take n)
  | _, _, 0, _ => .nil
  | [], _, n + 1, h => by cases h; exact .nil
  | d :: ds, _, n + 1, h => by cases h with | cons h r => exact .cons h (TpL.take n r)
theorem TpL.drop {H : Hp} : ∀ {ds : List D} {vs : List V} (n : Nat), TpL H vs ds → TpL H (vs.drop n) (ds.drop n)
  | _, _, 0, h => h
  | [], _, n + 1, h => by cases h; exact .nil
  | d :: ds, _, n + 1, h => by cases h with | cons h r => exact TpL.drop n r
theorem TpL.app {H : Hp} : ∀ {ds es : List D} {vs ws : List V}, TpL H vs ds → TpL H ws es → TpL H (vs ++ ws) (ds ++ es)
  | [], _, _, _, h, g => by cases h; exact g
  | d :: ds, _, _, _, h, g => by cases h with | cons h r => exact .cons h (TpL.app r g)
/-- two that bear the same data -/
theorem same_t {K : PySem.W.Frag} {H : Hp} {n : Nat} {v w : V} {ds : List D} (h : Tp H v (.t ds)) (g : Tp H w (.t ds)) (hl : ds.length ≤ 1000) (e : ∀ d ∈ ds, ∀ x y, Tp H x d → Tp H y d → SameV K H n x y) : SameV K H (n + 1) v w := by
  obtain ⟨a, xs, rfl, ha, ra⟩ := t_at h
  obtain ⟨b, ys, rfl, hb, rb⟩ := t_at g
  refine Or.inr (Or.inr ⟨a, b, xs, ys, rfl, rfl, ha, hb, by rw [ra.length, rb.length], by rw [ra.length]; exact hl, fun i u v hu hv => ?_⟩)
  obtain ⟨d, e1, e2⟩ := ra.get hu
  obtain ⟨d', e3, e4⟩ := rb.get hv
  rw [e1] at e3
  cases e3
  exact e d (List.mem_of_getElem? e1) u v e2 e4
theorem same_s {K : PySem.W.Frag} {H : Hp} {n : Nat} {v w x : V} (h : Tp H v (.s x)) (g : Tp H w (.s x)) : SameV K H (n + 1) v w := by
  cases h with
  | s h => cases g with | s g => exact SameV.sc h
theorem same_cl {K : PySem.W.Frag} {H : Hp} {n : Nat} {v w : V} {c : Cl} (h : Tp H v (clD c)) (g : Tp H w (clD c)) : SameV K H (n + 2) v w := by
  refine same_t h g (by show 3 ≤ 1000; decide) fun d hd x y hx hy => ?_
  simp only [List.mem_cons, List.not_mem_nil, or_false] at hd
  rcases hd with rfl | rfl | rfl <;> exact same_s hx hy
theorem same_cond {K : PySem.W.Frag} {H : Hp} {n : Nat} {v w : V} {c : Cond} (h : Tp H v (condD c)) (g : Tp H w (condD c)) (h1 : c.length ≤ 1000) (h2 : ∀ a ∈ c, a.length ≤ 1000) : SameV K H (n + 4) v w := by
  refine same_t h g (by rw [List.length_map]; exact h1) fun d hd x y hx hy => ?_
  obtain ⟨a, ha, rfl⟩ := List.mem_map.mp hd
  refine same_t hx hy (by rw [List.length_map]; exact h2 a ha) fun d hd x y hx hy => ?_
  obtain ⟨cl, _, rfl⟩ := List.mem_map.mp hd
  exact same_cl hx hy
/-! ### what conditions mention; renaming -/
def mentM (n : Str) (c : Cond) : Bool := c.any fun a => a.any fun cl => decide (cl.n = n)
def renCl (o n : Str) (cl : Cl) : Cl := if cl.n = o then ⟨n, cl.op, cl.v⟩ else cl
def renM (o n : Str) (c : Cond) : Cond := c.map fun a => a.map (renCl o n)
/-- any, all of one list after another -/
def flat (c : Cond) : List Cl := c.flatten
theorem any_flat (c : Cond) (f : Cl → Bool) : (c.flatten).any f = c.any fun a => a.any f := by
  induction c with
  | nil => rfl
  | cons a r ih => rw [List.flatten_cons, List.any_append, List.any_cons, ih]
theorem all_flat (c : Cond) (f : Cl → Bool) : (c.flatten).all f = c.all fun a => a.all f := by
  induction c with
  | nil => rfl
  | cons a r ih => rw [List.flatten_cons, List.all_append, List.all_cons, ih]
theorem flat_step {c : Cond} {i j : Nat} {a : List Cl} {x : Cl} (h : c[i]? = some a) (g : a[j]? = some x) : (c.take i).flatten ++ a.take (j + 1) = ((c.take i).flatten ++ a.take j) ++ [x] := by
  rw [List.take_add_one, g, List.append_assoc]; rfl
theorem flat_next {c : Cond} {i : Nat} {a : List Cl} (h : c[i]? = some a) : (c.take (i + 1)).flatten = (c.take i).flatten ++ a := by
  rw [List.take_add_one, h, List.flatten_append]
  simp
theorem map2_snoc {α β γ : Type} (f : α → β) (g : β → γ) (l : List α) (x : α) : ((l ++ [x]).map f).map g = (l.map f).map g ++ [g (f x)] := by simp
/-- a value that a clause may bear -/
def ClG (cl : Cl) : Prop := cl.v = .non ∨ (∃ i : Int, cl.v = .int i ∧ -999999999 ≤ i ∧ i ≤ 999999999) ∨ ∃ z : Str, cl.v = .str z ∧ z.length ≤ 30 ∧ ∀ c ∈ tl z, chOk c
theorem ClG.scal {cl : Cl} (h : ClG cl) : isScal cl.v = true := by
  rcases h with e | ⟨i, e, _⟩ | ⟨z, e, _⟩ <;> rw [e] <;> rfl
theorem ClOk.g {cols : List Col} {cl : Cl} (h : ClOk cols cl) : ClG cl := by
  obtain ⟨_, col, _, _, ⟨_, e⟩ | ⟨_, e⟩⟩ := h
  · exact .inl e
  · rcases e with ⟨e, _⟩ | ⟨_, i, e, h1, h2⟩ | ⟨_, z, e, h1, h2⟩
    · cases e
    · exact .inr (.inl ⟨i, e, h1, h2⟩)
    · exact .inr (.inr ⟨z, e, h1, h2⟩)
theorem ClG.thing {cl : Cl} {H : Hp} (h : ClG cl) : Thing H cl.v := by
  rcases h with e | ⟨i, e, _⟩ | ⟨z, e, h1, _⟩ <;> rw [e]
  · exact .non
  · exact .int i
  · exact .str z (by omega)
/-- fits_kind -/
def fitsK (v : V) (k : Str) (b : Bool) : Bool := if v = .non then b else goodV v && decide (kindOf v = k)
def spFitsKind : Sp := fun vs H Q _ => ∃ (v : V) (k : Str) (b : Bool), vs = [v, .str k, .bl b] ∧ Thing H v ∧ ∀ H', Same H H' → Q (.bl (fitsK v k b)) H'
/-- the kind of the column called n -/
def kindAt (cols : List Col) (n : Str) : Str := (cols.map (·.k)).getD ((colNs cols).idxOf n) ""
def clFits (cols : List Col) (cl : Cl) : Bool := decide (cl.n ∈ colNs cols) && fitsK cl.v (kindAt cols cl.n) true
def fitsM (cols : List Col) (c : Cond) : Bool := c.all fun a => a.all (clFits cols)
def kindsD (cols : List Col) : List (Key × V) := cols.map fun c => ((Sum.inr c.n : Key), V.str c.k)
theorem kinds_get : ∀ (cols : List Col) (n : Str), valV (kindsD cols) (Sum.inr n : Key) = if n ∈ colNs cols then some (.str (kindAt cols n)) else none
  | [], n => by simp [kindsD, colNs, valV]
  | c :: r, n => by
    have ih := kinds_get r n
    by_cases h : c.n = n
    · have e1 : valV (kindsD (c :: r)) (Sum.inr n : Key) = some (.str c.k) := by
        show valV ((((Sum.inr c.n : Key), V.str c.k)) :: kindsD r) _ = _
        rw [valV_pos (by rw [h])]
      have e2 : n ∈ colNs (c :: r) := by rw [← h]; exact List.mem_cons_self
      have e3 : kindAt (c :: r) n = c.k := by
        unfold kindAt colNs
        rw [List.map_cons, List.map_cons, List.idxOf_cons, h, beq_self_eq_true]
        rfl
      rw [e1, if_pos e2, e3]
    · have e1 : valV (kindsD (c :: r)) (Sum.inr n : Key) = valV (kindsD r) (Sum.inr n) := by
        show valV ((((Sum.inr c.n : Key), V.str c.k)) :: kindsD r) _ = _
        rw [valV_neg (fun z => h (Sum.inr.inj z))]
      have e2 : (n ∈ colNs (c :: r)) ↔ n ∈ colNs r := by
        unfold colNs
        rw [List.map_cons, List.mem_cons]
        exact ⟨fun z => z.resolve_left (fun w => h w.symm), .inr⟩
      have e3 : kindAt (c :: r) n = kindAt r n := by
        unfold kindAt colNs
        rw [List.map_cons, List.map_cons, List.idxOf_cons, beq_false_of_ne h]
        rfl
      rw [e1, ih, e3]
      by_cases g : n ∈ colNs r
      · rw [if_pos g, if_pos (e2.mpr g)]
      · rw [if_neg g, if_neg (fun z => g (e2.mp z))]
theorem kinds_put {cols : List Col} (nd : (colNs cols).Nodup) {i : Nat} {c : Col} (h : cols[i]? = some c) : putK (kindsD (cols.take i)) (Sum.inr c.n : Key) (.str c.k) = kindsD (cols.take (i + 1)) := by
  have hno : valV (kindsD (cols.take i)) (Sum.inr c.n : Key) = none := by
    rw [kinds_get, if_neg]
    intro hm
    unfold colNs at hm
    obtain ⟨d, hd, e⟩ := List.mem_map.mp hm
    obtain ⟨j, hj, ej⟩ := List.getElem_of_mem hd
    rw [List.length_take] at hj
    rw [List.getElem_take] at ej
    have a1 : (colNs cols)[j]? = some c.n := by unfold colNs; rw [List.getElem?_map, List.getElem?_eq_getElem (by omega), ej]; exact congrArg some e
    have a2 : (colNs cols)[i]? = some c.n := by unfold colNs; rw [List.getElem?_map, h]; rfl
    have := nd_ix nd a1 a2
    omega
  rw [putK_new _ hno, List.take_add_one, h]
  unfold kindsD
  rw [List.map_append]
  rfl
end Lt

set_option autoImplicit false
namespace Lt
open PySem L2 TL
open C8 (pss_cut)
/-! ## data of any form: tuples, lists, dicts, nested -/
inductive G where
  | s (v : V)
  | t (gs : List G)
  | l (gs : List G)
  | d (ks : List (Key × G))
mutual
/-- v bears the data g; the lists and dicts of it stand at the addresses D -/
inductive Gp (H : Hp) : V → G → List Addr → Prop
  | s {v : V} (h : isScal v = true) : Gp H v (.s v) []
  | t {a : Addr} {xs : List V} {gs : List G} {D : List Addr} (h : H a = some (.tup xs)) (n : xs.length ≤ 1000) (r : GpL H xs gs D) : Gp H (.ref a) (.t gs) D
  | l {a : Addr} {xs : List V} {gs : List G} {D : List Addr} (h : H a = some (.lst xs)) (n : xs.length ≤ 1000) (r : GpL H xs gs D) : Gp H (.ref a) (.l gs) (a :: D)
  | d {a : Addr} {kvs : List (Key × V)} {kgs : List (Key × G)} {D : List Addr} (h : H a = some (.dK kvs)) (n : kvs.length ≤ 1000) (nd : (kvs.map (·.1)).Nodup) (r : GpK H kvs kgs D) (f : a ∉ D) : Gp H (.ref a) (.d kgs) (a :: D)
inductive GpL (H : Hp) : List V → List G → List Addr → Prop
  | nil : GpL H [] [] []
  | cons {v : V} {g : G} {vs : List V} {gs : List G} {D E : List Addr} (h : Gp H v g D) (r : GpL H vs gs E) : GpL H (v :: vs) (g :: gs) (D ++ E)
inductive GpK (H : Hp) : List (Key × V) → List (Key × G) → List Addr → Prop
  | nil : GpK H [] [] []
  | cons {k : Key} {v : V} {g : G} {vs : List (Key × V)} {gs : List (Key × G)} {D E : List Addr} (h : Gp H v g D) (r : GpK H vs gs E) : GpK H ((k, v) :: vs) ((k, g) :: gs) (D ++ E)
end
mutual
def G.dep : G → Nat
  | .s _ => 0
  | .t gs => depL gs + 1
  | .l gs => depL gs + 1
  | .d ks => depK ks + 1
def depL : List G → Nat
  | [] => 0
  | g :: gs => max g.dep (depL gs)
def depK : List (Key × G) → Nat
  | [] => 0
  | (_, g) :: gs => max g.dep (depK gs)
end
theorem depL_mem : ∀ {gs : List G} {g : G}, g ∈ gs → g.dep ≤ depL gs
  | x :: r, g, h => by
    simp only [depL]
    rcases List.mem_cons.mp h with rfl | h
    · omega
    · have := depL_mem h; omega
theorem depK_mem : ∀ {ks : List (Key × G)} {k : Key} {g : G}, (k, g) ∈ ks → g.dep ≤ depK ks
  | (k', x) :: r, k, g, h => by
    simp only [depK]
    rcases List.mem_cons.mp h with e | h
    · cases e; omega
    · have := depK_mem h; omega
mutual
theorem Gp.frame {H H' : Hp} (kt : KeepT H H') : ∀ {g : G} {v : V} {D : List Addr}, Gp H v g D → (∀ b ∈ D, ∀ o, H b = some o → H' b = some o) → Gp H' v g D
  | .s _, _, _, h, _ => by cases h with | s h => exact .s h
  | .t gs, _, _, h, hd => by cases h with | t h n r => exact .t (kt _ _ h) n (GpL.frame kt r hd)
  | .l gs, _, _, h, hd => by cases h with | l h n r => exact .l (hd _ List.mem_cons_self _ h) n (GpL.frame kt r fun b hb => hd b (List.mem_cons_of_mem _ hb))
  | .d ks, _, _, h, hd => by cases h with | d h n nd r f => exact .d (hd _ List.mem_cons_self _ h) n nd (GpK.frame kt r fun b hb => hd b (List.mem_cons_of_mem _ hb)) f
theorem GpL.frame {H H' : Hp} (kt : KeepT H H') : ∀ {gs : List G} {vs : List V} {D : List Addr}, GpL H vs gs D → (∀ b ∈ D, ∀ o, H b = some o → H' b = some o) → GpL H' vs gs D
  | [], _, _, h, _ => by cases h; exact .nil
  | g :: gs, _, _, h, hd => by cases h with | cons h r => exact .cons (Gp.frame kt h fun b hb => hd b (List.mem_append.mpr (.inl hb))) (GpL.frame kt r fun b hb => hd b (List.mem_append.mpr (.inr hb)))
theorem GpK.frame {H H' : Hp} (kt : KeepT H H') : ∀ {gs : List (Key × G)} {vs : List (Key × V)} {D : List Addr}, GpK H vs gs D → (∀ b ∈ D, ∀ o, H b = some o → H' b = some o) → GpK H' vs gs D
  | [], _, _, h, _ => by cases h; exact .nil
  | (k, g) :: gs, _, _, h, hd => by cases h with | cons h r => exact .cons (Gp.frame kt h fun b hb => hd b (List.mem_append.mpr (.inl hb))) (GpK.frame kt r fun b hb => hd b (List.mem_append.mpr (.inr hb)))
end
theorem Gp.mono {H H' : Hp} {g : G} {v : V} {D : List Addr} (h : Gp H v g D) (e : Same H H') : Gp H' v g D := h.frame (KeepT.of e) fun b _ o z => e b o z
theorem GpL.mono {H H' : Hp} {g : List G} {v : List V} {D : List Addr} (h : GpL H v g D) (e : Same H H') : GpL H' v g D := h.frame (KeepT.of e) fun b _ o z => e b o z
theorem GpK.mono {H H' : Hp} {g : List (Key × G)} {v : List (Key × V)} {D : List Addr} (h : GpK H v g D) (e : Same H H') : GpK H' v g D := h.frame (KeepT.of e) fun b _ o z => e b o z
theorem GpL.length {H : Hp} : ∀ {gs : List G} {vs : List V} {D : List Addr}, GpL H vs gs D → vs.length = gs.length
  | [], _, _, h => by cases h; rfl
  | g :: gs, _, _, h => by cases h with | cons h r => rw [List.length_cons, List.length_cons, GpL.length r]
theorem GpL.get {H : Hp} : ∀ {gs : List G} {vs : List V} {D : List Addr} {i : Nat} {v : V}, GpL H vs gs D → vs[i]? = some v → ∃ g E, gs[i]? = some g ∧ Gp H v g E ∧ ∀ a ∈ E, a ∈ D
  | [], _, _, i, v, h, e => by cases h; simp at e
  | g :: gs, _, _, 0, v, h, e => by cases h with | cons h r => simp at e; subst e; exact ⟨g, _, rfl, h, fun a ha => List.mem_append.mpr (.inl ha)⟩
  | g :: gs, _, _, i + 1, v, h, e => by
    cases h with
    | cons h r =>
      obtain ⟨g', E, e1, e2, e3⟩ := GpL.get (i := i) r (by simpa using e)
      exact ⟨g', E, e1, e2, fun a ha => List.mem_append.mpr (.inr (e3 a ha))⟩
theorem GpK.get {H : Hp} : ∀ {gs : List (Key × G)} {vs : List (Key × V)} {D : List Addr} {i : Nat} {k : Key} {v : V}, GpK H vs gs D → vs[i]? = some (k, v) → ∃ g E, gs[i]? = some (k, g) ∧ Gp H v g E ∧ ∀ a ∈ E, a ∈ D
  | [], _, _, i, k, v, h, e => by cases h; simp at e
  | (k', g) :: gs, _, _, 0, k, v, h, e => by cases h with | cons h r => simp at e; obtain ⟨rfl, rfl⟩ := e; exact ⟨g, _, rfl, h, fun a ha => List.mem_append.mpr (.inl ha)⟩
  | (k', g) :: gs, _, _, i + 1, k, v, h, e => by
    cases h with
    | cons h r =>
      obtain ⟨g', E, e1, e2, e3⟩ := GpK.get (i := i) r (by simpa using e)
      exact ⟨g', E, e1, e2, fun a ha => List.mem_append.mpr (.inr (e3 a ha))⟩
theorem GpK.keys {H : Hp} : ∀ {gs : List (Key × G)} {vs : List (Key × V)} {D : List Addr}, GpK H vs gs D → vs.map (·.1) = gs.map (·.1)
  | [], _, _, h => by cases h; rfl
  | g :: gs, _, _, h => by cases h with | cons h r => rw [List.map_cons, List.map_cons, GpK.keys r]
theorem GpL.snoc {H : Hp} : ∀ {gs : List G} {vs : List V} {D E : List Addr} {v : V} {g : G}, GpL H vs gs D → Gp H v g E → GpL H (vs ++ [v]) (gs ++ [g]) (D ++ E)
  | [], _, _, E, v, g, h, q => by
    cases h
    have := GpL.cons q GpL.nil
    rw [List.append_nil] at this
    exact this
  | g0 :: gs, _, _, E, v, g, h, q => by
    cases h with
    | cons h r =>
      rw [List.append_assoc]
      exact .cons h (GpL.snoc r q)
theorem GpK.snoc {H : Hp} : ∀ {gs : List (Key × G)} {vs : List (Key × V)} {D E : List Addr} {k : Key} {v : V} {g : G}, GpK H vs gs D → Gp H v g E → GpK H (vs ++ [(k, v)]) (gs ++ [(k, g)]) (D ++ E)
  | [], _, _, E, k, v, g, h, q => by
    cases h
    have := GpK.cons (k := k) q GpK.nil
    rw [List.append_nil] at this
    exact this
  | g0 :: gs, _, _, E, k, v, g, h, q => by
    cases h with
    | cons h r =>
      rw [List.append_assoc]
      exact .cons h (GpK.snoc r q)
theorem valV_at : ∀ {kvs : List (Key × V)} {i : Nat} {k : Key} {v : V}, (kvs.map (·.1)).Nodup → kvs[i]? = some (k, v) → valV kvs k = some v
  | [], i, k, v, _, h => by simp at h
  | (k0, v0) :: r, 0, k, v, _, h => by simp at h; obtain ⟨rfl, rfl⟩ := h; exact valV_pos rfl
  | (k0, v0) :: r, i + 1, k, v, nd, h => by
    have h' : r[i]? = some (k, v) := by simpa using h
    rw [List.map_cons, List.nodup_cons] at nd
    have ne : ¬ k0 = k := fun e => nd.1 (by rw [e]; exact List.mem_map.mpr ⟨(k, v), List.mem_of_getElem? h', rfl⟩)
    rw [valV_neg ne]
    exact valV_at nd.2 h'
theorem upd_self {H : Hp} {a : Addr} {o : HO} (h : H a = some o) : upd H a o = H := by
  funext b
  by_cases e : b = a
  · subst e; rw [upd_same, h]
  · rw [upd_ne e]
theorem KeepT.lock {H : Hp} {a : Addr} {kvs : List (Key × V)} {o : HO} (h : H a = some (.dK kvs)) : KeepT H (L2.upd H a o) := KeepT.upd fun xs z => by rw [h] at z; cases z
/-- behind a lock -/
theorem Gp.locked {H : Hp} {g : G} {v : V} {D : List Addr} {b : Addr} {kvs : List (Key × V)} {o : HO} (h : Gp H v g D) (hb : H b = some (.dK kvs)) (n : b ∉ D) : Gp (upd H b o) v g D :=
  h.frame (KeepT.lock hb) fun c hc u z => by
    have ne : c ≠ b := fun e => by subst e; exact n hc
    rw [upd_ne ne]; exact z
theorem ty_ref {K : PySem.W.Frag} {H : Hp} {a : Addr} {o : HO} (h : H a = some o) : (∀ xs, o = .lst xs → TyX K H (.ref a) (.type "list")) ∧ (∀ xs, o = .tup xs → TyX K H (.ref a) (.type "tuple")) ∧ (∀ xs, o = .dK xs → TyX K H (.ref a) (.type "dict")) :=
  ⟨fun xs e => .base (.lst (by rw [h, e])), fun xs e => .base (.tup (by rw [h, e])), fun xs e => .base (.dK (by rw [h, e]))⟩
def spSameG (n : Nat) : Sp := fun vs H Q _ => ∃ x y g D E, vs = [x, y] ∧ Gp H x g D ∧ Gp H y g E ∧ (∀ a ∈ D, a ∉ E) ∧ g.dep < n ∧ Q (.bl true) H
def spItemsG (n : Nat) : Sp := fun vs H Q _ => ∃ (a b : Addr) (xs ys : List V) (gs : List G) (D E : List Addr), vs = [.ref a, .ref b] ∧ ((H a = some (.lst xs) ∧ H b = some (.lst ys)) ∨ (H a = some (.tup xs) ∧ H b = some (.tup ys))) ∧ xs.length ≤ 1000 ∧
  GpL H xs gs D ∧ GpL H ys gs E ∧ (∀ a ∈ D, a ∉ E) ∧ (∀ g ∈ gs, g.dep < n) ∧ Q (.bl true) H
def spCopyG (n : Nat) : Sp := fun vs H Q _ => ∃ x g D, vs = [x] ∧ Gp H x g D ∧ g.dep < n ∧ ∀ x' D' H', Gp H' x' g D' → Same H H' → (∀ a ∈ D', H a = none) → D'.Nodup → Q x' H'
mutual
theorem Gp.there {H : Hp} : ∀ {g : G} {v : V} {D : List Addr}, Gp H v g D → ∀ a ∈ D, H a ≠ none
  | .s _, _, _, h, a, ha => by cases h; cases ha
  | .t gs, _, _, h, a, ha => by cases h with | t h n r => exact GpL.there r a ha
  | .l gs, _, _, h, a, ha => by
    cases h with
    | l h n r =>
      rcases List.mem_cons.mp ha with rfl | ha
      · rw [h]; intro z; cases z
      · exact GpL.there r a ha
  | .d ks, _, _, h, a, ha => by
    cases h with
    | d h n nd r f =>
      rcases List.mem_cons.mp ha with rfl | ha
      · rw [h]; intro z; cases z
      · exact GpK.there r a ha
theorem GpL.there {H : Hp} : ∀ {g : List G} {v : List V} {D : List Addr}, GpL H v g D → ∀ a ∈ D, H a ≠ none
  | [], _, _, h, a, ha => by cases h; cases ha
  | g :: gs, _, _, h, a, ha => by
    cases h with
    | cons h r =>
      rcases List.mem_append.mp ha with ha | ha
      · exact Gp.there h a ha
      · exact GpL.there r a ha
theorem GpK.there {H : Hp} : ∀ {g : List (Key × G)} {v : List (Key × V)} {D : List Addr}, GpK H v g D → ∀ a ∈ D, H a ≠ none
  | [], _, _, h, a, ha => by cases h; cases ha
  | (k, g) :: gs, _, _, h, a, ha => by
    cases h with
    | cons h r =>
      rcases List.mem_append.mp ha with ha | ha
      · exact Gp.there h a ha
      · exact GpK.there r a ha
end
end Lt

set_option autoImplicit false
namespace Lt
open PySem L2 TL
open C8 (pss_cut)
/-! ## schemas as they stand in the heap -/
structure Tab where
  n : Str
  cols : List Col
  ch : List Cond
  un : List Str
  rf : List (Str × Str)
structure Ads where
  d : Addr
  c : Addr
  k : Addr
  u : Addr
  r : Addr
def rfD (p : Str × Str) : D := .t [.s (.str p.1), .s (.str p.2)]
theorem rf_at {H : Hp} {v : V} {p : Str × Str} (h : Tp H v (rfD p)) : ∃ a, v = .ref a ∧ H a = some (.tup [.str p.1, .str p.2]) := by
  obtain ⟨a, xs, rfl, h1, h2⟩ := t_at h
  cases h2 with
  | cons g r => cases g; cases r with
    | cons g r => cases g; cases r; exact ⟨a, rfl, h1⟩
theorem rf_mk {H : Hp} {a : Addr} {p : Str × Str} (h : H a = some (.tup [.str p.1, .str p.2])) : Tp H (.ref a) (rfD p) := .t h (.cons (.s rfl) (.cons (.s rfl) .nil))
theorem e_co_ch : ¬ ("columns" : Str) = ("checks" : Str) := by decide +kernel
theorem e_co_un : ¬ ("columns" : Str) = ("uniques" : Str) := by decide +kernel
theorem e_co_rf : ¬ ("columns" : Str) = ("references" : Str) := by decide +kernel
theorem e_ch_un : ¬ ("checks" : Str) = ("uniques" : Str) := by decide +kernel
theorem e_ch_rf : ¬ ("checks" : Str) = ("references" : Str) := by decide +kernel
theorem e_un_rf : ¬ ("uniques" : Str) = ("references" : Str) := by decide +kernel
def descD (a : Ads) : List (Key × V) := [(Sum.inr ("columns" : Str), .ref a.c), (Sum.inr ("checks" : Str), .ref a.k), (Sum.inr ("uniques" : Str), .ref a.u), (Sum.inr ("references" : Str), .ref a.r)]
theorem dd_c (a : Ads) : valV (descD a) (Sum.inr ("columns" : Str) : Key) = some (.ref a.c) := valV_pos rfl
theorem dd_k (a : Ads) : valV (descD a) (Sum.inr ("checks" : Str) : Key) = some (.ref a.k) := by unfold descD; rw [valV_neg (fun z => e_co_ch (Sum.inr.inj z)), valV_pos rfl]
theorem dd_u (a : Ads) : valV (descD a) (Sum.inr ("uniques" : Str) : Key) = some (.ref a.u) := by unfold descD; rw [valV_neg (fun z => e_co_un (Sum.inr.inj z)), valV_neg (fun z => e_ch_un (Sum.inr.inj z)), valV_pos rfl]
theorem dd_r (a : Ads) : valV (descD a) (Sum.inr ("references" : Str) : Key) = some (.ref a.r) := by unfold descD; rw [valV_neg (fun z => e_co_rf (Sum.inr.inj z)), valV_neg (fun z => e_ch_rf (Sum.inr.inj z)), valV_neg (fun z => e_un_rf (Sum.inr.inj z)), valV_pos rfl]
theorem merge_desc (a : Ads) : mergeK [] (descD a) = descD a := by
  simp [mergeK, putK, descD, e_co_ch, e_co_un, e_co_rf, e_ch_un, e_ch_rf, e_un_rf]
structure DescAt (H : Hp) (a : Ads) (t : Tab) : Prop where
  dk : H a.d = some (.dK (descD a))
  co : ColsAt H a.c t.cols
  ch : ∃ xs, H a.k = some (.lst xs) ∧ TpL H xs (t.ch.map condD)
  un : H a.u = some (.lst (t.un.map V.str))
  rf : ∃ xs, H a.r = some (.lst xs) ∧ TpL H xs (t.rf.map rfD)
def adL (a : Ads) : List Addr := [a.c, a.k, a.u, a.r]
theorem DescAt.frame {H H' : Hp} {a : Ads} {t : Tab} (h : DescAt H a t) (kt : KeepT H H') (kd : ∀ o, H a.d = some o → H' a.d = some o) (kl : ∀ b ∈ adL a, ∀ o, H b = some o → H' b = some o) : DescAt H' a t := by
  obtain ⟨h1, h2, ⟨xs, h3, h3'⟩, h4, ⟨ys, h5, h5'⟩⟩ := h
  refine ⟨kd _ h1, h2.mono kt (kl a.c (by simp [adL])), ⟨xs, kl a.k (by simp [adL]) _ h3, h3'.mono kt⟩, kl a.u (by simp [adL]) _ h4, ⟨ys, kl a.r (by simp [adL]) _ h5, h5'.mono kt⟩⟩
theorem DescAt.isL {H : Hp} {a : Ads} {t : Tab} (h : DescAt H a t) : ∀ b ∈ adL a, ∃ xs, H b = some (.lst xs) := by
  obtain ⟨h1, ⟨xs, h2, _⟩, ⟨ys, h3, _⟩, h4, ⟨zs, h5, _⟩⟩ := h
  intro b hb
  simp only [adL, List.mem_cons, List.not_mem_nil, or_false] at hb
  rcases hb with rfl | rfl | rfl | rfl
  · exact ⟨_, h2⟩
  · exact ⟨_, h3⟩
  · exact ⟨_, h4⟩
  · exact ⟨_, h5⟩
abbrev Sch := List (Ads × Tab)
def schK (s : Sch) : List (Key × V) := s.map fun p => ((Sum.inr p.2.n : Key), V.ref p.1.d)
def schN (s : Sch) : List Str := s.map fun p => p.2.n
def schL (s : Sch) : List Addr := s.flatMap fun p => adL p.1
structure SchAt (H : Hp) (S : Addr) (s : Sch) (t c : Addr) : Prop where
  sk : H S = some (.dK (schK s))
  ds : ∀ p ∈ s, DescAt H p.1 p.2
  nm : (schN s).Nodup
  dn : (t :: S :: s.map fun p => p.1.d).Nodup
  ln : (c :: schL s).Nodup
theorem sch_keys (s : Sch) : (schK s).map (·.1) = (schN s).map Sum.inr := by unfold schK schN; rw [List.map_map, List.map_map]; rfl
theorem sch_nd {s : Sch} (h : (schN s).Nodup) : ((schK s).map (·.1)).Nodup := by
  rw [sch_keys]
  exact List.Pairwise.map _ (fun a b e z => e (Sum.inr.inj z)) h
theorem sch_get {s : Sch} (h : (schN s).Nodup) {p : Ads × Tab} (hp : p ∈ s) : valV (schK s) (Sum.inr p.2.n : Key) = some (.ref p.1.d) := by
  obtain ⟨i, hi, e⟩ := List.getElem_of_mem hp
  refine valV_at (i := i) (sch_nd h) ?_
  unfold schK
  rw [List.getElem?_map, List.getElem?_eq_getElem hi, e]
  rfl
theorem sch_in {s : Sch} {n : Str} (h : n ∈ schN s) : ∃ p ∈ s, p.2.n = n := by
  obtain ⟨p, h1, h2⟩ := List.mem_map.mp h
  exact ⟨p, h1, h2⟩
theorem sch_one {s : Sch} (h : (schN s).Nodup) {p q : Ads × Tab} (hp : p ∈ s) (hq : q ∈ s) (e : p.2.n = q.2.n) : p = q := by
  obtain ⟨i, hi, ei⟩ := List.getElem_of_mem hp
  obtain ⟨j, hj, ej⟩ := List.getElem_of_mem hq
  have a1 : (schN s)[i]? = some p.2.n := by unfold schN; rw [List.getElem?_map, List.getElem?_eq_getElem hi, ei]; rfl
  have a2 : (schN s)[j]? = some p.2.n := by unfold schN; rw [List.getElem?_map, List.getElem?_eq_getElem hj, ej]; exact congrArg some e.symm
  have := nd_ix h a1 a2
  subst this
  rw [← ei, ← ej]
theorem SchAt.desc {H : Hp} {S : Addr} {s : Sch} {t c : Addr} (h : SchAt H S s t c) {p : Ads × Tab} (hp : p ∈ s) : DGet H S (.str p.2.n) (some (.ref p.1.d)) := by
  have g := DGet.k (k := (Sum.inr p.2.n : Key)) h.sk
  rw [sch_get h.nm hp] at g
  exact g
theorem DescAt.gc {H : Hp} {a : Ads} {t : Tab} (h : DescAt H a t) : DGet H a.d (.str "columns") (some (.ref a.c)) := by have g := DGet.k (k := (Sum.inr ("columns" : Str) : Key)) h.dk; rw [dd_c] at g; exact g
theorem DescAt.gk {H : Hp} {a : Ads} {t : Tab} (h : DescAt H a t) : DGet H a.d (.str "checks") (some (.ref a.k)) := by have g := DGet.k (k := (Sum.inr ("checks" : Str) : Key)) h.dk; rw [dd_k] at g; exact g
theorem DescAt.gu {H : Hp} {a : Ads} {t : Tab} (h : DescAt H a t) : DGet H a.d (.str "uniques") (some (.ref a.u)) := by have g := DGet.k (k := (Sum.inr ("uniques" : Str) : Key)) h.dk; rw [dd_u] at g; exact g
theorem DescAt.gr {H : Hp} {a : Ads} {t : Tab} (h : DescAt H a t) : DGet H a.d (.str "references") (some (.ref a.r)) := by have g := DGet.k (k := (Sum.inr ("references" : Str) : Key)) h.dk; rw [dd_r] at g; exact g
/-- the same but for the things at ex -/
def SameE (ex : List Addr) (H H' : Hp) : Prop := ∀ b o, H b = some o → b ∉ ex → H' b = some o
theorem SameE.refl (ex : List Addr) (H : Hp) : SameE ex H H := fun _ _ h _ => h
theorem SameE.trans {ex : List Addr} {H H1 H2 : Hp} (a : SameE ex H H1) (b : SameE ex H1 H2) : SameE ex H H2 := fun c o h n => b c o (a c o h n) n
theorem SameE.ofX {ex : List Addr} {t : Addr} {H H1 : Hp} (a : SameX t H H1) (h : t ∈ ex) : SameE ex H H1 := fun c o e n => a c o e (fun z => n (z ▸ h))
theorem SameE.of {ex : List Addr} {H H1 : Hp} (a : Same H H1) : SameE ex H H1 := fun c o e _ => a c o e
theorem SameE.upd {ex : List Addr} {H H1 : Hp} {p : Addr} (h : p ∈ ex) (o : HO) (a : SameE ex H H1) : SameE ex H (L2.upd H1 p o) := fun b u q n => by
  have ne : b ≠ p := fun z => n (z ▸ h)
  rw [upd_ne ne]; exact a b u q n
/-- what a schema's table may hold -/
structure TabOk (fr : List (Str × List Col)) (t : Tab) : Prop where
  nm : nameOk t.n
  co : ColsOk [] t.cols
  l0 : 1 ≤ t.cols.length
  l5 : t.cols.length ≤ 5
  c4 : t.ch.length ≤ 2
  cc : ∀ c ∈ t.ch, c.length ≤ 4 ∧ ∀ a ∈ c, a.length ≤ 4 ∧ ∀ cl ∈ a, ClOk t.cols cl
  u4 : t.un.length ≤ 4
  un : t.un.Nodup
  uc : ∀ n ∈ t.un, n ∈ colNs (t.cols.drop 1)
  r4 : t.rf.length ≤ 4
  rn : (t.rf.map (·.1)).Nodup
  rc : ∀ p ∈ t.rf, ∃ col ∈ t.cols.drop 1, col.n = p.1 ∧ p.2 ≠ t.n ∧ ∃ f ∈ fr, f.1 = p.2 ∧ ∃ kc, f.2[0]? = some kc ∧ kc.k = col.k
/-- a table that has no constraints yet -/
structure TabBare (t : Tab) : Prop where
  nm : nameOk t.n
  co : ColsOk [] t.cols
  l0 : 1 ≤ t.cols.length
  l5 : t.cols.length ≤ 5
  c0 : t.ch = []
  u0 : t.un = []
  r0 : t.rf = []
def frOf (s : Sch) : List (Str × List Col) := s.map fun p => (p.2.n, p.2.cols)
def spTable : Sp := fun vs H Q _ => ∃ (L : Addr) (cols : List Col), vs = [.ref L] ∧ ColsAt H L cols ∧ ∀ (a : Ads) (H' : Hp), (∀ n, DescAt H' a ⟨n, cols, [], [], []⟩) → Same H H' → H a.d = none → (∀ b ∈ adL a, H b = none) → (adL a).Nodup → Q (.ref a.d) H'
def spLimits : Sp := fun vs H Q _ => ∃ (t c S : Addr) (cs : List Int) (s : Sch) (a : Ads) (tab : Tab), vs = [.ref t, .ref S, .str tab.n] ∧ TapeAt H t c cs ∧ SchAt H S s t c ∧ s.length ≤ 6 ∧ (∀ p ∈ s, nameOk p.2.n ∧ 1 ≤ p.2.cols.length) ∧ (a, tab) ∈ s ∧ TabBare tab ∧
  ∀ (tab' : Tab) (H' : Hp), tab'.n = tab.n → tab'.cols = tab.cols → TabOk (frOf s) tab' → DescAt H' a tab' → TapeAt H' t c cs → KeepT H H' → SameE [t, a.k, a.u, a.r] H H' → Q .non H'
def spSchema : Sp := fun vs H Q _ => ∃ (t c : Addr) (cs : List Int) (least most : Int), vs = [.ref t, .int least, .int most] ∧ TapeAt H t c cs ∧ 0 ≤ least ∧ least ≤ most ∧ most ≤ 6 ∧
  ∀ (S : Addr) (s : Sch) (H' : Hp), SchAt H' S s t c → (∀ p ∈ s, TabOk (frOf s) p.2) → least ≤ s.length → (s.length : Int) ≤ most → TapeAt H' t c cs → SameX t H H' → Q (.ref S) H'
theorem mem_flat {s : Sch} {p : Ads × Tab} (h : p ∈ s) {b : Addr} (hb : b ∈ adL p.1) : b ∈ schL s := List.mem_flatMap.mpr ⟨p, h, hb⟩
theorem flat_one {s : Sch} (nd : (schL s).Nodup) {p q : Ads × Tab} (hp : p ∈ s) (hq : q ∈ s) {b : Addr} (h1 : b ∈ adL p.1) (h2 : b ∈ adL q.1) : p = q := by
  have nd := List.pairwise_flatMap.mp nd
  obtain ⟨i, hi, ei⟩ := List.getElem_of_mem hp
  obtain ⟨j, hj, ej⟩ := List.getElem_of_mem hq
  rcases Nat.lt_trichotomy i j with h | h | h
  · have := List.pairwise_iff_getElem.mp nd.2 i j hi hj h
    rw [ei, ej] at this
    exact absurd rfl (this b h1 b h2)
  · subst h; rw [← ei, ← ej]
  · have := List.pairwise_iff_getElem.mp nd.2 j i hj hi h
    rw [ei, ej] at this
    exact absurd rfl (this b h2 b h1)
theorem SchAt.tS {H : Hp} {S : Addr} {s : Sch} {t c : Addr} (h : SchAt H S s t c) : t ≠ S ∧ (∀ p ∈ s, p.1.d ≠ t) ∧ (∀ p ∈ s, p.1.d ≠ S) ∧ (∀ p ∈ s, ∀ b ∈ adL p.1, b ≠ c) := by
  have h1 := List.nodup_cons.mp h.dn
  have h2 := List.nodup_cons.mp h1.2
  have h3 := List.nodup_cons.mp h.ln
  refine ⟨fun e => h1.1 (by rw [e]; exact List.mem_cons_self), fun p hp e => h1.1 (List.mem_cons_of_mem _ (List.mem_map.mpr ⟨p, hp, e⟩)), fun p hp e => h2.1 (List.mem_map.mpr ⟨p, hp, e⟩), fun p hp b hb e => h3.1 (e ▸ mem_flat hp hb)⟩
theorem SchAt.monoX {H H' : Hp} {S : Addr} {s : Sch} {t c : Addr} {cs : List Int} (h : SchAt H S s t c) (T : TapeAt H t c cs) (e : SameX t H H') : SchAt H' S s t c := by
  obtain ⟨h1, h2, h3, _⟩ := h.tS
  refine ⟨e _ _ h.sk h1.symm, fun p hp => (h.ds p hp).frame (KeepT.ofX T e) (fun o z => e _ _ z (h2 p hp)) (fun b hb o z => e _ _ z ?_), h.nm, h.dn, h.ln⟩
  obtain ⟨xs, g⟩ := (h.ds p hp).isL b hb
  exact T.notL g
structure Lim (H H' : Hp) (t c : Addr) (cs : List Int) (a : Ads) (OL : Addr) (os : List Str) (conds : List Cond) (un : List Str) (rf : List (Str × Str)) : Prop where
  T : TapeAt H' t c cs
  kt : KeepT H H'
  se : SameE [t, a.k, a.u, a.r] H H'
  ol : H' OL = some (.lst (os.map V.str))
  ch : ∃ xs, H' a.k = some (.lst xs) ∧ TpL H' xs (conds.map condD)
  un : H' a.u = some (.lst (un.map V.str))
  rf : ∃ ys, H' a.r = some (.lst ys) ∧ TpL H' ys (rf.map rfD)
section
variable {H H' H2 : Hp} {t c : Addr} {cs : List Int} {a : Ads} {OL : Addr} {os : List Str} {conds : List Cond} {un : List Str} {rf : List (Str × Str)}
theorem Lim.stepX (L : Lim H H' t c cs a OL os conds un rf) (T2 : TapeAt H2 t c cs) (e : SameX t H' H2) : Lim H H2 t c cs a OL os conds un rf := by
  obtain ⟨T, kt, se, ol, ⟨xs, c1, c2⟩, un, ⟨ys, r1, r2⟩⟩ := L
  have k2 := KeepT.ofX T e
  exact ⟨T2, kt.trans k2, se.trans (SameE.ofX e (by simp)), e _ _ ol (T.notL ol), ⟨xs, e _ _ c1 (T.notL c1), c2.mono k2⟩, e _ _ un (T.notL un), ⟨ys, e _ _ r1 (T.notL r1), r2.mono k2⟩⟩
theorem Lim.step (L : Lim H H' t c cs a OL os conds un rf) (e : Same H' H2) : Lim H H2 t c cs a OL os conds un rf := by
  obtain ⟨T, kt, se, ol, ⟨xs, c1, c2⟩, un, ⟨ys, r1, r2⟩⟩ := L
  exact ⟨T.mono e, kt.trans (KeepT.of e), se.trans (SameE.of e), e _ _ ol, ⟨xs, e _ _ c1, c2.mono (KeepT.of e)⟩, e _ _ un, ⟨ys, e _ _ r1, r2.mono (KeepT.of e)⟩⟩
/-- what the schema shows while one table of it gets its constraints -/
theorem Lim.see {S : Addr} {s : Sch} {tab : Tab} (L : Lim H H' t c cs a OL os conds un rf) (A : SchAt H S s t c) (hm : (a, tab) ∈ s) (htk : ∃ kvs, H t = some (.dK kvs)) : DGet H' S (.str tab.n) (some (.ref a.d)) ∧ DGet H' a.d (.str "columns") (some (.ref a.c)) ∧ DGet H' a.d (.str "checks") (some (.ref a.k)) ∧ DGet H' a.d (.str "uniques") (some (.ref a.u)) ∧ DGet H' a.d (.str "references") (some (.ref a.r)) ∧ ColsAt H' a.c tab.cols ∧
    ∀ q ∈ s, DGet H' S (.str q.2.n) (some (.ref q.1.d)) ∧ DGet H' q.1.d (.str "columns") (some (.ref q.1.c)) ∧ ColsAt H' q.1.c q.2.cols := by
  obtain ⟨h1, h2, h3, h4⟩ := A.tS
  have D := A.ds _ hm
  have dl : ∀ {x : Addr} {kvs : List (Key × V)}, H x = some (.dK kvs) → x ≠ t → x ∉ [t, a.k, a.u, a.r] := by
    intro x kvs hx hxt hc
    have gl := D.isL
    simp only [List.mem_cons, List.not_mem_nil, or_false] at hc
    rcases hc with z | z | z | z
    · exact hxt z
    · obtain ⟨xs, g⟩ := gl a.k (by simp [adL]); rw [z, g] at hx; cases hx
    · obtain ⟨xs, g⟩ := gl a.u (by simp [adL]); rw [z, g] at hx; cases hx
    · obtain ⟨xs, g⟩ := gl a.r (by simp [adL]); rw [z, g] at hx; cases hx
  have hS : H' S = some (.dK (schK s)) := L.se _ _ A.sk (dl A.sk h1.symm)
  have all : ∀ q ∈ s, DGet H' S (.str q.2.n) (some (.ref q.1.d)) ∧ H' q.1.d = some (.dK (descD q.1)) ∧ ColsAt H' q.1.c q.2.cols := by
    intro q hq
    have g := DGet.k (k := (Sum.inr q.2.n : Key)) hS
    rw [sch_get A.nm hq] at g
    have Dq := A.ds q hq
    refine ⟨g, L.se _ _ Dq.dk (dl Dq.dk (h2 q hq)), Dq.co.mono L.kt fun o ho => L.se _ _ ho fun hc => ?_⟩
    have hb : q.1.c ∈ adL q.1 := by simp [adL]
    have nd := (List.nodup_cons.mp A.ln).2
    have one : ∀ b, b ∈ adL a → q.1.c = b → b = a.c := by
      intro b hba e
      have := flat_one nd hq hm hb (by rw [e]; exact hba)
      rw [← e, this]
    have ndA : (adL a).Nodup := (List.pairwise_flatMap.mp nd).1 _ hm
    simp only [adL, List.nodup_cons, List.mem_cons, List.not_mem_nil, or_false, not_or] at ndA
    simp only [List.mem_cons, List.not_mem_nil, or_false] at hc
    rcases hc with z | z | z | z
    · obtain ⟨kvs, e⟩ := htk
      obtain ⟨xs, g⟩ := Dq.isL q.1.c hb
      rw [z, e] at g; cases g
    · exact ndA.1.1 (one a.k (by simp [adL]) z).symm
    · exact ndA.1.2.1 (one a.u (by simp [adL]) z).symm
    · exact ndA.1.2.2 (one a.r (by simp [adL]) z).symm
  obtain ⟨g1, g2, g3⟩ := all _ hm
  have gg : ∀ {q : Ads}, H' q.d = some (.dK (descD q)) → DGet H' q.d (.str "columns") (some (.ref q.c)) := fun {q} e => by
    have g := DGet.k (k := (Sum.inr ("columns" : Str) : Key)) e; rw [dd_c] at g; exact g
  refine ⟨g1, gg g2, ?_, ?_, ?_, g3, fun q hq => ?_⟩
  · have g := DGet.k (k := (Sum.inr ("checks" : Str) : Key)) g2; rw [dd_k] at g; exact g
  · have g := DGet.k (k := (Sum.inr ("uniques" : Str) : Key)) g2; rw [dd_u] at g; exact g
  · have g := DGet.k (k := (Sum.inr ("references" : Str) : Key)) g2; rw [dd_r] at g; exact g
  · obtain ⟨q1, q2, q3⟩ := all q hq
    exact ⟨q1, gg q2, q3⟩
end
/-- a list of texts, compared with the empty one -/
theorem strs_dp {K : PySem.W.Frag} {H : Hp} : ∀ xs : List Str, DpAll K H (xs.map V.str) (xs.map PyData.str)
  | [] => .nil
  | x :: r => .cons (.str x) (strs_dp r)
theorem strs_lay : ∀ xs : List Str, (∀ x ∈ xs, PyData.strOk x = true) → PyData.canLayAll0 (xs.map PyData.str) = true ∧ PyData.depthAll (xs.map PyData.str) ≤ 1
  | [], _ => by simp [PyData.canLayAll0, PyData.depthAll]
  | x :: r, h => by
    obtain ⟨a, b⟩ := strs_lay r fun y hy => h y (List.mem_cons_of_mem _ hy)
    have hx := h x List.mem_cons_self
    constructor
    · simp [PyData.canLayAll0, PyData.canLay0, a, hx]
    · simp only [List.map_cons, PyData.depthAll, PyData.depth]
      omega
theorem strs_shaped {xs : List Str} (h : ∀ x ∈ xs, PyData.strOk x = true) : SeqAt.shaped (.list (xs.map PyData.str)) = true := by
  obtain ⟨a, b⟩ := strs_lay xs h
  simp only [SeqAt.shaped, PyData.canLay0, a, Bool.true_and, PyData.depth]
  exact decide_eq_true (by omega)
theorem strs_eqv (xs : List Str) : PyData.eqv (.list (xs.map PyData.str)) (.list []) = xs.isEmpty := by cases xs <;> rfl
theorem nameOk.str {z : Str} (h : nameOk z) : PyData.strOk z = true := strOk_of fun c hc => (h.2.2 c hc).ok
/-- one table's description has changed, all else stands -/
theorem SchAt.set {H H' : Hp} {S : Addr} {s : Sch} {t c : Addr} {i : Nat} {a : Ads} {tab tab' : Tab} (h : SchAt H S s t c) (ht : ∃ kvs, H t = some (.dK kvs)) (hi : s[i]? = some (a, tab)) (hn : tab'.n = tab.n) (hd : DescAt H' a tab') (kt : KeepT H H') (e : SameE [t, a.k, a.u, a.r] H H') : SchAt H' S (s.set i (a, tab')) t c := by
  obtain ⟨h1, h2, h3, h4⟩ := h.tS
  have hm : (a, tab) ∈ s := List.mem_of_getElem? hi
  have hil : i < s.length := (List.getElem?_eq_some_iff.mp hi).1
  have dl : ∀ {x : Addr} {kvs : List (Key × V)}, H x = some (.dK kvs) → x ≠ t → x ∉ [t, a.k, a.u, a.r] := by
    intro x kvs hx hxt hc
    have gl := (h.ds _ hm).isL
    simp only [List.mem_cons, List.not_mem_nil, or_false] at hc
    rcases hc with z | z | z | z
    · exact hxt z
    · obtain ⟨xs, g⟩ := gl a.k (by simp [adL]); rw [z, g] at hx; cases hx
    · obtain ⟨xs, g⟩ := gl a.u (by simp [adL]); rw [z, g] at hx; cases hx
    · obtain ⟨xs, g⟩ := gl a.r (by simp [adL]); rw [z, g] at hx; cases hx
  have ek : schK (s.set i (a, tab')) = schK s := by
    unfold schK
    rw [List.map_set]
    refine List.ext_getElem? fun j => ?_
    rw [List.getElem?_set]
    split
    · rename_i hj; subst hj
      rw [List.getElem?_map, hi, if_pos (by rw [List.length_map]; exact hil)]
      show some ((Sum.inr tab'.n : Key), V.ref a.d) = _
      rw [hn]; rfl
    · rfl
  have en : schN (s.set i (a, tab')) = schN s := by
    unfold schN
    rw [List.map_set]
    refine List.ext_getElem? fun j => ?_
    rw [List.getElem?_set]
    split
    · rename_i hj; subst hj
      rw [List.getElem?_map, hi, if_pos (by rw [List.length_map]; exact hil)]
      exact congrArg some hn
    · rfl
  have ea : (s.set i (a, tab')).map (fun p => p.1) = s.map (fun p => p.1) := by
    rw [List.map_set]
    refine List.ext_getElem? fun j => ?_
    rw [List.getElem?_set]
    split
    · rename_i hj; subst hj
      rw [List.getElem?_map, hi, if_pos (by rw [List.length_map]; exact hil)]
      rfl
    · rfl
  have ed : (s.set i (a, tab')).map (fun p => p.1.d) = s.map (fun p => p.1.d) := by
    have := congrArg (List.map fun x : Ads => x.d) ea
    rw [List.map_map, List.map_map] at this
    exact this
  have el : schL (s.set i (a, tab')) = schL s := by
    have := congrArg (List.flatMap fun x : Ads => adL x) ea
    rw [List.flatMap_map, List.flatMap_map] at this
    exact this
  refine ⟨?_, fun p hp => ?_, by rw [en]; exact h.nm, by rw [ed]; exact h.dn, by rw [el]; exact h.ln⟩
  · rw [ek]; exact e _ _ h.sk (dl h.sk h1.symm)
  · obtain ⟨j, hj, ej⟩ := List.getElem_of_mem hp
    rw [List.getElem_set] at ej
    split at ej
    · rw [← ej]; exact hd
    · rename_i hne
      rw [List.length_set] at hj
      have hps : p ∈ s := by rw [← ej]; exact List.getElem_mem hj
      have D := h.ds p hps
      refine D.frame kt (fun o z => e _ _ z (by rw [D.dk] at z; cases z; exact dl D.dk (h2 p hps))) (fun b hb o z => e _ _ z fun hc => ?_)
      have hb2 : b ∈ adL a ∨ b = t := by
        simp only [List.mem_cons, List.not_mem_nil, or_false] at hc
        rcases hc with z | z | z | z
        · exact .inr z
        · exact .inl (by rw [z]; simp [adL])
        · exact .inl (by rw [z]; simp [adL])
        · exact .inl (by rw [z]; simp [adL])
      rcases hb2 with hb2 | hb2
      · have eq := flat_one (List.nodup_cons.mp h.ln).2 hps hm hb hb2
        have hi' : s[i] = (a, tab) := by rw [List.getElem?_eq_getElem hil] at hi; exact Option.some.inj hi
        have b1 : (schN s)[j]? = some tab.n := by unfold schN; rw [List.getElem?_map, List.getElem?_eq_getElem hj, ej, eq]; rfl
        have b2 : (schN s)[i]? = some tab.n := by unfold schN; rw [List.getElem?_map, hi]; rfl
        exact hne (nd_ix h.nm b2 b1)
      · obtain ⟨xs, g⟩ := D.isL b hb
        obtain ⟨kvs, h5⟩ := ht
        rw [hb2, h5] at g
        cases g
end Lt

set_option autoImplicit false
namespace Lt
open PySem L2 TL
open C8 (pss_cut)
/-! ## a schema in the making -/
theorem putK_fresh {kvs : List (Key × V)} {k : Key} {v : V} (h : k ∉ kvs.map (·.1)) : putK kvs k v = kvs ++ [(k, v)] := by
  unfold putK
  rw [if_neg]
  intro z
  obtain ⟨x, h1, h2⟩ := List.any_eq_true.mp z
  exact h (List.mem_map.mpr ⟨x, h1, of_decide_eq_true h2⟩)
theorem schK_new {s : Sch} {a : Ads} {tab : Tab} (h : tab.n ∉ schN s) : putK (schK s) (Sum.inr tab.n : Key) (.ref a.d) = schK (s ++ [(a, tab)]) := by
  rw [putK_fresh]
  · unfold schK; rw [List.map_append]; rfl
  · rw [sch_keys]
    intro z
    obtain ⟨x, h1, h2⟩ := List.mem_map.mp z
    cases h2
    exact h h1
theorem SchAt.notS {H : Hp} {S : Addr} {s : Sch} {t c : Addr} (A : SchAt H S s t c) : ∀ p ∈ s, ∀ b ∈ adL p.1, b ≠ S := fun p hp b hb e => by
  obtain ⟨xs, g⟩ := (A.ds p hp).isL b hb
  rw [e, A.sk] at g
  cases g
theorem SchAt.add {H : Hp} {S t c : Addr} {s : Sch} {a : Ads} {tab : Tab} (A : SchAt H S s t c) (D : DescAt H a tab) (hz : tab.n ∉ schN s) (hd : a.d ≠ t ∧ a.d ≠ S ∧ ∀ p ∈ s, a.d ≠ p.1.d)
    (hl : ∀ b ∈ adL a, b ≠ c ∧ b ∉ schL s) (nd : (adL a).Nodup) : SchAt (upd H S (.dK (schK (s ++ [(a, tab)])))) S (s ++ [(a, tab)]) t c := by
  obtain ⟨h1, h2, h3, h4⟩ := A.tS
  have kt : KeepT H (upd H S (.dK (schK (s ++ [(a, tab)])))) := KeepT.lock A.sk
  have fr : ∀ {a' : Ads} {tab' : Tab}, DescAt H a' tab' → a'.d ≠ S → DescAt (upd H S (.dK (schK (s ++ [(a, tab)])))) a' tab' := fun {a' tab'} D' ne =>
    D'.frame kt (fun o z => by rw [upd_ne ne]; exact z) (fun b hb o z => by
      have : b ≠ S := fun e => by
        obtain ⟨xs, g⟩ := D'.isL b hb
        rw [e, A.sk] at g; cases g
      rw [upd_ne this]; exact z)
  refine ⟨upd_same, fun p hp => ?_, ?_, ?_, ?_⟩
  · rcases List.mem_append.mp hp with hp | hp
    · exact fr (A.ds p hp) (h3 p hp)
    · rw [List.mem_singleton.mp hp]; exact fr D hd.2.1
  · unfold schN
    rw [List.map_append]
    refine List.nodup_append.mpr ⟨A.nm, by simp, fun x hx y hy => ?_⟩
    have : y = tab.n := by simpa using hy
    subst this
    rintro rfl
    exact hz hx
  · rw [List.map_append]
    show ((t :: S :: s.map fun p => p.1.d) ++ [a.d]).Nodup
    refine List.nodup_append.mpr ⟨A.dn, by simp, fun x hx y hy => ?_⟩
    have : y = a.d := by simpa using hy
    subst this
    rcases List.mem_cons.mp hx with rfl | hx
    · exact hd.1.symm
    · rcases List.mem_cons.mp hx with rfl | hx
      · exact hd.2.1.symm
      · obtain ⟨p, hp, e⟩ := List.mem_map.mp hx
        rw [← e]; exact (hd.2.2 p hp).symm
  · have e : schL (s ++ [(a, tab)]) = schL s ++ adL a := by unfold schL; rw [List.flatMap_append]; simp
    rw [e]
    show ((c :: schL s) ++ adL a).Nodup
    refine List.nodup_append.mpr ⟨A.ln, nd, fun x hx y hy => ?_⟩
    rintro rfl
    rcases List.mem_cons.mp hx with e | hx
    · exact (hl x hy).1 e
    · exact (hl x hy).2 hx
/-- all stands but the tape and a list that is no part of it -/
theorem SchAt.monoXY {H H' : Hp} {S U : Addr} {s : Sch} {t c : Addr} {cs : List Int} {us : List V} (h : SchAt H S s t c) (T : TapeAt H t c cs) (hU : H U = some (.lst us)) (nU : U ∉ schL s) (e : SameXY t U H H') : SchAt H' S s t c := by
  obtain ⟨h1, h2, h3, _⟩ := h.tS
  have nl : ∀ {b : Addr} {kvs : List (Key × V)}, H b = some (.dK kvs) → b ≠ U := fun hb z => by rw [z, hU] at hb; cases hb
  refine ⟨e _ _ h.sk h1.symm (nl h.sk), fun p hp => (h.ds p hp).frame (KeepT.ofXY T hU e) (fun o z => e _ _ z (h2 p hp) (nl (h.ds p hp).dk)) (fun b hb o z => e _ _ z ?_ ?_), h.nm, h.dn, h.ln⟩
  · obtain ⟨xs, g⟩ := (h.ds p hp).isL b hb
    exact T.notL g
  · rintro rfl; exact nU (mem_flat hp hb)
theorem SameXY.free {t u : Addr} {H H' : Hp} (e : SameXY t u H H') {b : Addr} (h1 : b ≠ t) (h2 : b ≠ u) (h : H' b = none) : H b = none := by
  cases z : H b with
  | none => rfl
  | some o => have := e _ _ z h1 h2; rw [h] at this; cases this
theorem set_map {α β : Type} {s : List α} {i : Nat} {x y : α} (f : α → β) (h : s[i]? = some x) (e : f y = f x) : (s.set i y).map f = s.map f := by
  have hil : i < s.length := (List.getElem?_eq_some_iff.mp h).1
  rw [List.map_set]
  refine List.ext_getElem? fun j => ?_
  rw [List.getElem?_set]
  split
  · rename_i hj; subst hj
    rw [List.getElem?_map, h, if_pos (by rw [List.length_map]; exact hil), e]
    rfl
  · rfl
/-- a schema whose tables get their constraints one after another: those in done have them -/
structure Half (H0 H' : Hp) (t c : Addr) (cs : List Int) (S : Addr) (s s' : Sch) (done : List Str) : Prop where
  A : SchAt H' S s' t c
  T : TapeAt H' t c cs
  ads : s'.map (·.1) = s.map (·.1)
  fr : frOf s' = frOf s
  ok : ∀ p ∈ s', p.2.n ∈ done → TabOk (frOf s) p.2
  ba : ∀ p ∈ s', p.2.n ∉ done → TabBare p.2
  se : SameX t H0 H'
  new : ∀ b ∈ schL s', H0 b = none
theorem schN_of {s s' : Sch} (h : frOf s' = frOf s) : schN s' = schN s := by
  have := congrArg (List.map (·.1)) h
  unfold frOf at this
  rw [List.map_map, List.map_map] at this
  exact this
theorem schL_of {s s' : Sch} (h : s'.map (·.1) = s.map (·.1)) : schL s' = schL s := by
  have := congrArg (List.flatMap fun x : Ads => adL x) h
  rw [List.flatMap_map, List.flatMap_map] at this
  exact this
theorem Half.put {H0 H1 H2 : Hp} {t c : Addr} {cs : List Int} {S : Addr} {s s' : Sch} {done : List Str} {a : Ads} {tab tab' : Tab} (L : Half H0 H1 t c cs S s s' done) (hm : (a, tab) ∈ s')
    (hn : tab'.n = tab.n) (hc : tab'.cols = tab.cols) (ok : TabOk (frOf s') tab') (D : DescAt H2 a tab') (T : TapeAt H2 t c cs) (kt : KeepT H1 H2) (e : SameE [t, a.k, a.u, a.r] H1 H2) :
    ∃ s2, Half H0 H2 t c cs S s s2 (done ++ [tab.n]) := by
  obtain ⟨i, hi, ei⟩ := List.getElem_of_mem hm
  have hi' : s'[i]? = some (a, tab) := by rw [List.getElem?_eq_getElem hi, ei]
  have ht : ∃ kvs, H1 t = some (.dK kvs) := by obtain ⟨_, _, _, _, e, _⟩ := L.T.dk; exact ⟨_, e⟩
  have f1 : frOf (s'.set i (a, tab')) = frOf s := by
    rw [← L.fr]
    exact set_map (fun p : Ads × Tab => (p.2.n, p.2.cols)) hi' (by show (tab'.n, tab'.cols) = (tab.n, tab.cols); rw [hn, hc])
  have f2 : (s'.set i (a, tab')).map (·.1) = s.map (·.1) := by rw [← L.ads]; exact set_map (fun p : Ads × Tab => p.1) hi' rfl
  have back : ∀ p ∈ s'.set i (a, tab'), p = (a, tab') ∨ (p ∈ s' ∧ p.2.n ≠ tab.n) := by
    intro p hp
    obtain ⟨j, hj, ej⟩ := List.getElem_of_mem hp
    rw [List.getElem_set] at ej
    split at ej
    · exact .inl ej.symm
    · rename_i hne
      rw [List.length_set] at hj
      have hps : p ∈ s' := by rw [← ej]; exact List.getElem_mem hj
      refine .inr ⟨hps, fun z => ?_⟩
      have b1 : (schN s')[j]? = some tab.n := by unfold schN; rw [List.getElem?_map, List.getElem?_eq_getElem hj, ej, ← z]; rfl
      have b2 : (schN s')[i]? = some tab.n := by unfold schN; rw [List.getElem?_map, hi']; rfl
      exact hne (nd_ix L.A.nm b2 b1)
  refine ⟨s'.set i (a, tab'), L.A.set ht hi' hn D kt e, T, f2, f1, ?_, ?_, ?_, ?_⟩
  · intro p hp hd
    rcases back p hp with rfl | ⟨h1, h2⟩
    · rw [← L.fr]; exact ok
    · rcases List.mem_append.mp hd with hd | hd
      · exact L.ok p h1 hd
      · exact absurd (List.mem_singleton.mp hd) h2
  · intro p hp hd
    rcases back p hp with rfl | ⟨h1, h2⟩
    · exact absurd (List.mem_append.mpr (.inr (by rw [List.mem_singleton]; exact hn))) hd
    · exact L.ba p h1 fun z => hd (List.mem_append.mpr (.inl z))
  · intro b o hb hbt
    have g := L.se b o hb hbt
    refine e b o g fun hc => ?_
    simp only [List.mem_cons, List.not_mem_nil, or_false] at hc
    have nw : ∀ x ∈ adL a, b ≠ x := fun x hx z => by
      have := L.new x (mem_flat hm hx)
      rw [← z, hb] at this; cases this
    rcases hc with z | z | z | z
    · exact hbt z
    · exact nw a.k (by simp [adL]) z
    · exact nw a.u (by simp [adL]) z
    · exact nw a.r (by simp [adL]) z
  · rw [schL_of (f2.trans L.ads.symm)]; exact L.new
end Lt

set_option autoImplicit false
namespace Lt
open PySem L2 TL
open C8 (pss_cut)
/-! ## schemas as data; what they say of columns and tables -/
mutual
def gOf : D → G
  | .s v => .s v
  | .t ds => .t (gOfL ds)
def gOfL : List D → List G
  | [] => []
  | d :: ds => gOf d :: gOfL ds
end
mutual
def D.sm : D → Bool
  | .s _ => true
  | .t ds => decide (ds.length ≤ 1000) && smL ds
def smL : List D → Bool
  | [] => true
  | d :: ds => d.sm && smL ds
end
theorem gOfL_map : ∀ ds : List D, gOfL ds = ds.map gOf
  | [] => rfl
  | d :: ds => by simp only [gOfL, List.map_cons]; rw [gOfL_map ds]
theorem smL_all : ∀ {ds : List D}, smL ds = true ↔ ∀ d ∈ ds, d.sm = true
  | [] => by simp [smL]
  | d :: ds => by simp only [smL, Bool.and_eq_true, List.forall_mem_cons]; rw [smL_all]
theorem sm_t {ds : List D} (h : ds.length ≤ 1000) (k : ∀ d ∈ ds, d.sm = true) : (D.t ds).sm = true := by
  simp only [D.sm, Bool.and_eq_true, decide_eq_true_eq]
  exact ⟨h, smL_all.mpr k⟩
mutual
theorem Tp.g {H : Hp} : ∀ {d : D} {v : V}, Tp H v d → d.sm = true → Gp H v (gOf d) []
  | .s _, _, h, _ => by cases h with | s h => exact .s h
  | .t ds, _, h, k => by
    cases h with
    | t h r =>
      simp only [D.sm, Bool.and_eq_true, decide_eq_true_eq] at k
      exact .t h (by rw [r.length]; exact k.1) (TpL.g r k.2)
theorem TpL.g {H : Hp} : ∀ {ds : List D} {vs : List V}, TpL H vs ds → smL ds = true → GpL H vs (gOfL ds) []
  | [], _, h, _ => by cases h; exact .nil
  | d :: ds, _, h, k => by
    cases h with
    | cons h r =>
      simp only [smL, Bool.and_eq_true] at k
      exact GpL.cons (D := []) (E := []) (Tp.g h k.1) (TpL.g r k.2)
end
mutual
def D.dp : D → Nat
  | .s _ => 0
  | .t ds => dpL ds + 1
def dpL : List D → Nat
  | [] => 0
  | d :: ds => max d.dp (dpL ds)
end
mutual
theorem dep_gOf : ∀ d : D, (gOf d).dep = d.dp
  | .s _ => rfl
  | .t ds => by simp only [gOf, G.dep, D.dp]; rw [dep_gOfL ds]
theorem dep_gOfL : ∀ ds : List D, depL (gOfL ds) = dpL ds
  | [] => rfl
  | d :: ds => by simp only [gOfL, depL, dpL]; rw [dep_gOf d, dep_gOfL ds]
end
theorem depL_le {n : Nat} : ∀ {gs : List G}, (∀ g ∈ gs, g.dep ≤ n) → depL gs ≤ n
  | [], _ => Nat.zero_le _
  | g :: gs, h => by
    simp only [depL]
    have a := h g List.mem_cons_self
    have b := depL_le fun x hx => h x (List.mem_cons_of_mem _ hx)
    omega
theorem depK_le {n : Nat} : ∀ {gs : List (Key × G)}, (∀ p ∈ gs, p.2.dep ≤ n) → depK gs ≤ n
  | [], _ => Nat.zero_le _
  | (k, g) :: gs, h => by
    simp only [depK]
    have a := h _ List.mem_cons_self
    have b := depK_le fun x hx => h x (List.mem_cons_of_mem _ hx)
    simp only at a
    omega
theorem dpL_le {n : Nat} : ∀ {gs : List D}, (∀ g ∈ gs, g.dp ≤ n) → dpL gs ≤ n
  | [], _ => Nat.zero_le _
  | g :: gs, h => by
    simp only [dpL]
    have a := h g List.mem_cons_self
    have b := dpL_le fun x hx => h x (List.mem_cons_of_mem _ hx)
    omega
theorem col_sm (c : Col) : (colD c).sm = true := rfl
theorem col_dp (c : Col) : (colD c).dp = 1 := rfl
theorem rf_sm (c : Str × Str) : (rfD c).sm = true := rfl
theorem rf_dp (c : Str × Str) : (rfD c).dp = 1 := rfl
theorem cl_sm (c : Cl) : (clD c).sm = true := rfl
theorem cl_dp (c : Cl) : (clD c).dp = 1 := rfl
theorem cond_sm {c : Cond} (h : c.length ≤ 1000) (k : ∀ a ∈ c, a.length ≤ 1000) : (condD c).sm = true := by
  refine sm_t (by rw [List.length_map]; exact h) fun d hd => ?_
  obtain ⟨a, ha, rfl⟩ := List.mem_map.mp hd
  refine sm_t (by rw [List.length_map]; exact k a ha) fun d hd => ?_
  obtain ⟨cl, _, rfl⟩ := List.mem_map.mp hd
  exact cl_sm cl
theorem cond_dp (c : Cond) : (condD c).dp ≤ 3 := by
  have : dpL (c.map altD) ≤ 2 := by
    refine dpL_le fun d hd => ?_
    obtain ⟨a, _, rfl⟩ := List.mem_map.mp hd
    have : dpL (a.map clD) ≤ 1 := dpL_le fun d hd => by
      obtain ⟨cl, _, rfl⟩ := List.mem_map.mp hd
      exact Nat.le_of_eq (cl_dp cl)
    simp only [altD, D.dp]; omega
  simp only [condD, D.dp]; omega
/-- a list of tuples as data -/
def lG (ds : List D) : G := .l (gOfL ds)
def strsG (xs : List Str) : G := .l (xs.map fun x => .s (.str x))
theorem strsG_L {H : Hp} : ∀ xs : List Str, GpL H (xs.map V.str) (xs.map fun x => G.s (.str x)) []
  | [] => .nil
  | x :: r => GpL.cons (D := []) (E := []) (.s rfl) (strsG_L r)
theorem strsG_at {H : Hp} {N : Addr} {xs : List Str} (h : H N = some (.lst (xs.map V.str))) (hl : xs.length ≤ 1000) : Gp H (.ref N) (strsG xs) [N] := .l h (by rw [List.length_map]; exact hl) (strsG_L xs)
theorem strsG_dep (xs : List Str) : (strsG xs).dep ≤ 1 := by
  have : depL (xs.map fun x => G.s (.str x)) ≤ 0 := depL_le fun g hg => by
    obtain ⟨x, _, rfl⟩ := List.mem_map.mp hg
    exact Nat.le_refl 0
  simp only [strsG, G.dep]; omega
def descG (t : Tab) : G := .d [(Sum.inr ("columns" : Str), lG (t.cols.map colD)), (Sum.inr ("checks" : Str), lG (t.ch.map condD)), (Sum.inr ("uniques" : Str), strsG t.un), (Sum.inr ("references" : Str), lG (t.rf.map rfD))]
def tabsG (ts : List Tab) : List (Key × G) := ts.map fun t => ((Sum.inr t.n : Key), descG t)
def schG (s : Sch) : G := .d (tabsG (s.map (·.2)))
/-- sizes that any schema here keeps to -/
structure TabSm (t : Tab) : Prop where
  co : t.cols.length ≤ 40
  ch : t.ch.length ≤ 40
  cc : ∀ c ∈ t.ch, c.length ≤ 20 ∧ ∀ a ∈ c, a.length ≤ 20
  un : t.un.length ≤ 40
  rf : t.rf.length ≤ 40
theorem TabOk.sm {fr : List (Str × List Col)} {t : Tab} (h : TabOk fr t) : TabSm t := by
  have h1 := h.l5
  have h2 := h.c4
  have h3 := h.u4
  have h4 := h.r4
  exact ⟨by omega, by omega, fun c hc => by
    obtain ⟨a, b⟩ := h.cc c hc
    exact ⟨by omega, fun x hx => by have := (b x hx).1; omega⟩, by omega, by omega⟩
theorem lG_dep {ds : List D} {n : Nat} (h : ∀ d ∈ ds, d.dp ≤ n) : (lG ds).dep ≤ n + 1 := by
  simp only [lG, G.dep]
  rw [dep_gOfL]
  have := dpL_le h
  omega
theorem desc_dep (t : Tab) : (descG t).dep ≤ 5 := by
  have : depK [((Sum.inr ("columns" : Str) : Key), lG (t.cols.map colD)), (Sum.inr ("checks" : Str), lG (t.ch.map condD)), (Sum.inr ("uniques" : Str), strsG t.un), (Sum.inr ("references" : Str), lG (t.rf.map rfD))] ≤ 4 := by
    refine depK_le fun p hp => ?_
    simp only [List.mem_cons, List.not_mem_nil, or_false] at hp
    rcases hp with rfl | rfl | rfl | rfl
    · exact Nat.le_trans (lG_dep (n := 1) fun d hd => by obtain ⟨x, _, rfl⟩ := List.mem_map.mp hd; exact Nat.le_of_eq (col_dp x)) (by decide)
    · exact lG_dep (n := 3) fun d hd => by obtain ⟨x, _, rfl⟩ := List.mem_map.mp hd; exact cond_dp x
    · exact Nat.le_trans (strsG_dep _) (by decide)
    · exact Nat.le_trans (lG_dep (n := 1) fun d hd => by obtain ⟨x, _, rfl⟩ := List.mem_map.mp hd; exact Nat.le_of_eq (rf_dp x)) (by decide)
  simp only [descG, G.dep]; omega
theorem sch_dep (s : Sch) : (schG s).dep ≤ 6 := by
  have : depK (tabsG (s.map (·.2))) ≤ 5 := depK_le fun p hp => by
    obtain ⟨t, _, rfl⟩ := List.mem_map.mp hp
    exact desc_dep t
  simp only [schG, G.dep]; omega
theorem desc_nd (a : Ads) : ((descD a).map (·.1)).Nodup := by
  simp only [descD, List.map_cons, List.map_nil, List.nodup_cons, List.mem_cons, List.not_mem_nil, or_false, not_or, not_false_eq_true, List.nodup_nil, and_true]
  refine ⟨⟨fun z => e_co_ch (Sum.inr.inj z), fun z => e_co_un (Sum.inr.inj z), fun z => e_co_rf (Sum.inr.inj z)⟩, ⟨fun z => e_ch_un (Sum.inr.inj z), fun z => e_ch_rf (Sum.inr.inj z)⟩, fun z => e_un_rf (Sum.inr.inj z)⟩
theorem DescAt.g {H : Hp} {a : Ads} {t : Tab} (h : DescAt H a t) (k : TabSm t) : Gp H (.ref a.d) (descG t) (a.d :: adL a) := by
  obtain ⟨xs, h2, r2⟩ := h.co
  obtain ⟨ys, h3, r3⟩ := h.ch
  obtain ⟨zs, h5, r5⟩ := h.rf
  have g2 : Gp H (.ref a.c) (lG (t.cols.map colD)) [a.c] := .l h2 (by have := k.co; rw [r2.length, List.length_map]; omega) (r2.g (smL_all.mpr fun d hd => by obtain ⟨x, _, rfl⟩ := List.mem_map.mp hd; rfl))
  have g3 : Gp H (.ref a.k) (lG (t.ch.map condD)) [a.k] := .l h3 (by have := k.ch; rw [r3.length, List.length_map]; omega) (r3.g (smL_all.mpr fun d hd => by
    obtain ⟨x, hx, rfl⟩ := List.mem_map.mp hd
    have := k.cc x hx
    exact cond_sm (by omega) fun a ha => by have := this.2 a ha; omega))
  have g4 : Gp H (.ref a.u) (strsG t.un) [a.u] := strsG_at h.un (by have := k.un; omega)
  have g5 : Gp H (.ref a.r) (lG (t.rf.map rfD)) [a.r] := .l h5 (by have := k.rf; rw [r5.length, List.length_map]; omega) (r5.g (smL_all.mpr fun d hd => by obtain ⟨x, _, rfl⟩ := List.mem_map.mp hd; rfl))
  refine .d h.dk (by show 4 ≤ 1000; decide) (desc_nd a) (D := adL a) (GpK.cons (D := [a.c]) (E := [a.k, a.u, a.r]) g2 (GpK.cons (D := [a.k]) (E := [a.u, a.r]) g3 (GpK.cons (D := [a.u]) (E := [a.r]) g4 (GpK.cons (D := [a.r]) (E := []) g5 .nil)))) fun hm => ?_
  obtain ⟨ys, e⟩ := h.isL _ hm
  rw [h.dk] at e
  cases e
def schD (s : Sch) : List Addr := s.flatMap fun p => p.1.d :: adL p.1
theorem tabs_gp {H : Hp} : ∀ {s : Sch}, (∀ p ∈ s, DescAt H p.1 p.2) → (∀ p ∈ s, TabSm p.2) → GpK H (schK s) (tabsG (s.map (·.2))) (schD s)
  | [], _, _ => .nil
  | p :: r, h, k => by
    have := tabs_gp (fun q hq => h q (List.mem_cons_of_mem _ hq)) (fun q hq => k q (List.mem_cons_of_mem _ hq))
    exact GpK.cons ((h p List.mem_cons_self).g (k p List.mem_cons_self)) this
theorem sch_gp {H : Hp} {S : Addr} {s : Sch} (hs : H S = some (.dK (schK s))) (hd : ∀ p ∈ s, DescAt H p.1 p.2) (nm : (schN s).Nodup) (k : ∀ p ∈ s, TabSm p.2) (l : s.length ≤ 100) (ne : ∀ p ∈ s, p.1.d ≠ S) : Gp H (.ref S) (schG s) (S :: schD s) := by
  refine .d hs (by unfold schK; rw [List.length_map]; omega) (sch_nd nm) (tabs_gp hd k) fun hm => ?_
  obtain ⟨p, hp, hb⟩ := List.mem_flatMap.mp hm
  rcases List.mem_cons.mp hb with e | hb
  · exact ne p hp e.symm
  · obtain ⟨xs, e⟩ := (hd p hp).isL _ hb
    rw [hs] at e
    cases e
theorem SchAt.g {H : Hp} {S t c : Addr} {s : Sch} (A : SchAt H S s t c) (k : ∀ p ∈ s, TabSm p.2) (l : s.length ≤ 100) : Gp H (.ref S) (schG s) (S :: schD s) := sch_gp A.sk A.ds A.nm k l A.tS.2.2.1
/-! ### is a column used, is a table referenced -/
def usedM (t : Tab) (n : Str) : Bool := t.ch.any (mentM n) || (decide (n ∈ t.un) || decide (n ∈ t.rf.map (·.1)))
def refdM (ts : List Tab) (n : Str) : Bool := ts.any fun t => t.rf.any fun r => decide (r.2 = n)
def spColumnNames : Sp := fun vs H Q _ => ∃ (d L : Addr) (cols : List Col), vs = [.ref d] ∧ DGet H d (.str "columns") (some (.ref L)) ∧ ColsAt H L cols ∧ cols.length ≤ 100 ∧ ∀ N H', H N = none → Same H H' → H' N = some (.lst ((colNs cols).map V.str)) → Q (.ref N) H'
def spCopyDesc : Sp := fun vs H Q _ => ∃ (a : Ads) (tab : Tab), vs = [.ref a.d] ∧ DescAt H a tab ∧ ∀ a' H', DescAt H' a' tab → Same H H' → H a'.d = none → (∀ b ∈ adL a', H b = none) → (adL a').Nodup → Q (.ref a'.d) H'
/-- a schema, made anew -/
structure NewSch (H H' : Hp) (S : Addr) (s : Sch) (ts : List Tab) : Prop where
  sk : H' S = some (.dK (schK s))
  ds : ∀ p ∈ s, DescAt H' p.1 p.2
  ts : s.map (·.2) = ts
  fS : H S = none
  fd : ∀ p ∈ s, H p.1.d = none ∧ p.1.d ≠ S ∧ ∀ b ∈ adL p.1, H b = none
  dn : (s.map fun p => p.1.d).Nodup
  ln : (schL s).Nodup
  se : Same H H'
def spCopySchema : Sp := fun vs H Q _ => ∃ (S : Addr) (s : Sch), vs = [.ref S] ∧ H S = some (.dK (schK s)) ∧ (∀ p ∈ s, DescAt H p.1 p.2) ∧ (schN s).Nodup ∧ s.length ≤ 100 ∧ ∀ S' s' H', NewSch H H' S' s' (s.map (·.2)) → Q (.ref S') H'
def spIsUsed : Sp := fun vs H Q _ => ∃ (a : Ads) (tab : Tab) (n : Str), vs = [.ref a.d, .str n] ∧ DescAt H a tab ∧ TabSm tab ∧ ∀ H', Same H H' → Q (.bl (usedM tab n)) H'
def spIsReferenced : Sp := fun vs H Q _ => ∃ (S : Addr) (s : Sch) (n : Str), vs = [.ref S, .str n] ∧ H S = some (.dK (schK s)) ∧ (∀ p ∈ s, DescAt H p.1 p.2) ∧ (schN s).Nodup ∧ (∀ p ∈ s, TabSm p.2) ∧ s.length ≤ 20 ∧ ∀ H', Same H H' → Q (.bl (refdM (s.map (·.2)) n)) H'
theorem sch_at {s : Sch} {i : Nat} {k : Key} {v : V} (h : (schK s)[i]? = some (k, v)) : ∃ p, s[i]? = some p ∧ k = Sum.inr p.2.n ∧ v = .ref p.1.d := by
  unfold schK at h
  rw [List.getElem?_map] at h
  cases e : s[i]? with
  | none => rw [e] at h; cases h
  | some p => rw [e] at h; cases h; exact ⟨p, rfl, rfl, rfl⟩
theorem sch_getF {H : Hp} {S : Addr} {s : Sch} {od : Obj} (h : H S = some (.frz od (.dK (schK s)))) (nm : (schN s).Nodup) {p : Ads × Tab} (hp : p ∈ s) : DGet H S (.str p.2.n) (some (.ref p.1.d)) :=
  .inl ⟨schK s, Sum.inr p.2.n, .inr ⟨od, h⟩, rfl, (sch_get nm hp).symm⟩
theorem DescAt.lock {H : Hp} {S : Addr} {a : Ads} {t : Tab} {kvs : List (Key × V)} {o : HO} (h : DescAt H a t) (hS : H S = some (.dK kvs)) (ne : a.d ≠ S) : DescAt (upd H S o) a t :=
  h.frame (KeepT.lock hS) (fun o z => by rw [upd_ne ne]; exact z) fun b hb o z => by
    have : b ≠ S := fun e => by
      obtain ⟨xs, g⟩ := h.isL _ hb
      rw [e, hS] at g; cases g
    rw [upd_ne this]; exact z
/-- a description does not stand where the schema stands -/
theorem desc_ne {H : Hp} {S : Addr} {s : Sch} (hs : H S = some (.dK (schK s))) (hd : ∀ p ∈ s, DescAt H p.1 p.2) : ∀ p ∈ s, p.1.d ≠ S := fun p hp e => by
  have D := hd p hp
  have h1 := D.dk
  rw [e, hs] at h1
  have h2 : schK s = descD p.1 := HO.dK.inj (Option.some.inj h1)
  have h3 : ((Sum.inr ("columns" : Str) : Key), V.ref p.1.c) ∈ schK s := by rw [h2]; simp [descD]
  obtain ⟨q, hq, eq⟩ := List.mem_map.mp h3
  have h4 : q.1.d = p.1.c := V.ref.inj (Prod.mk.inj eq).2
  obtain ⟨xs, g⟩ := D.isL p.1.c (by simp [adL])
  rw [← h4, (hd q hq).dk] at g
  cases g
theorem cond_flat {c : Cond} (h1 : c.length ≤ 20) (h2 : ∀ a ∈ c, a.length ≤ 20) : c.flatten.length ≤ 1000 := by
  have : ∀ (c : Cond), (∀ a ∈ c, a.length ≤ 20) → c.flatten.length ≤ 20 * c.length := by
    intro c
    induction c with
    | nil => intro _; simp
    | cons a r ih =>
      intro h
      have a1 := h a List.mem_cons_self
      have a2 := ih fun x hx => h x (List.mem_cons_of_mem _ hx)
      rw [List.flatten_cons, List.length_append, List.length_cons]
      omega
  have := this c h2
  omega
theorem take_map {α β : Type} (f : α → β) {l : List α} {i : Nat} {x : α} (h : l[i]? = some x) : (l.take (i + 1)).map f = (l.take i).map f ++ [f x] := by
  rw [List.take_add_one, h, List.map_append]; rfl
theorem take_map2 {α β γ : Type} (f : α → β) (g : β → γ) {l : List α} {i : Nat} {x : α} (h : l[i]? = some x) : ((l.take (i + 1)).map f).map g = ((l.take i).map f).map g ++ [g (f x)] := by
  rw [take_map f h, List.map_append]; rfl
theorem D_str_eq (a b : Str) : decide (V.str a = V.str b) = decide (a = b) := by
  by_cases h : a = b
  · rw [decide_eq_true h, decide_eq_true (congrArg V.str h)]
  · rw [decide_eq_false h, decide_eq_false (fun z => h (V.str.inj z))]
theorem DescAt.mono {H H' : Hp} {a : Ads} {t : Tab} (h : DescAt H a t) (e : Same H H') : DescAt H' a t := h.frame (KeepT.of e) (fun o => e _ _) (fun b _ o => e _ _)
theorem NewSch.newD {H H' : Hp} {S : Addr} {s : Sch} {ts : List Tab} (N : NewSch H H' S s ts) : ∀ a ∈ S :: schD s, H a = none := by
  intro a ha
  rcases List.mem_cons.mp ha with rfl | ha
  · exact N.fS
  · obtain ⟨p, hp, hb⟩ := List.mem_flatMap.mp ha
    obtain ⟨h1, _, h2⟩ := N.fd p hp
    rcases List.mem_cons.mp hb with rfl | hb
    · exact h1
    · exact h2 a hb
theorem NewSch.nm {H H' : Hp} {S : Addr} {s s0 : Sch} (N : NewSch H H' S s (s0.map (·.2))) (h : (schN s0).Nodup) : (schN s).Nodup := by
  have : schN s = schN s0 := by
    have e := congrArg (List.map fun t : Tab => t.n) N.ts
    rw [List.map_map, List.map_map] at e
    exact e
  rw [this]; exact h
theorem NewSch.mem {H H' : Hp} {S : Addr} {s s0 : Sch} (N : NewSch H H' S s (s0.map (·.2))) {p : Ads × Tab} (hp : p ∈ s) : ∃ q ∈ s0, q.2 = p.2 := by
  have : p.2 ∈ s0.map (·.2) := by rw [← N.ts]; exact List.mem_map.mpr ⟨p, hp, rfl⟩
  obtain ⟨q, h1, h2⟩ := List.mem_map.mp this
  exact ⟨q, h1, h2⟩
theorem NewSch.g {H H' : Hp} {S : Addr} {s s0 : Sch} (N : NewSch H H' S s (s0.map (·.2))) (nm : (schN s0).Nodup) (k : ∀ p ∈ s0, TabSm p.2) (l : s0.length ≤ 100) : Gp H' (.ref S) (schG s0) (S :: schD s) := by
  have e : schG s = schG s0 := by unfold schG; rw [N.ts]
  rw [← e]
  refine sch_gp N.sk N.ds (N.nm nm) (fun p hp => ?_) ?_ (fun p hp => (N.fd p hp).2.1)
  · obtain ⟨q, h1, h2⟩ := N.mem hp
    rw [← h2]; exact k q h1
  · have := congrArg List.length N.ts
    simp only [List.length_map] at this
    omega
theorem DescAt.isLn {H : Hp} {a : Ads} {t : Tab} (h : DescAt H a t) (k : TabSm t) : ∀ b ∈ adL a, ∃ xs, H b = some (.lst xs) ∧ xs.length ≤ 40 := by
  obtain ⟨h1, ⟨xs, h2, r2⟩, ⟨ys, h3, r3⟩, h4, ⟨zs, h5, r5⟩⟩ := h
  intro b hb
  simp only [adL, List.mem_cons, List.not_mem_nil, or_false] at hb
  rcases hb with rfl | rfl | rfl | rfl
  · exact ⟨_, h2, by rw [r2.length, List.length_map]; exact k.co⟩
  · exact ⟨_, h3, by rw [r3.length, List.length_map]; exact k.ch⟩
  · exact ⟨_, h4, by rw [List.length_map]; exact k.un⟩
  · exact ⟨_, h5, by rw [r5.length, List.length_map]; exact k.rf⟩
theorem desc_part {H : Hp} {a : Ads} (h : H a.d = some (.dK (descD a))) {i : Nat} {x : V} (e : [V.str "columns", V.str "checks", V.str "uniques", V.str "references"][i]? = some x) : ∃ b ∈ adL a, DGet H a.d x (some (.ref b)) := by
  match i, e with
  | 0, e => cases e; exact ⟨a.c, by simp [adL], by have g := DGet.k (k := (Sum.inr ("columns" : Str) : Key)) h; rw [dd_c] at g; exact g⟩
  | 1, e => cases e; exact ⟨a.k, by simp [adL], by have g := DGet.k (k := (Sum.inr ("checks" : Str) : Key)) h; rw [dd_k] at g; exact g⟩
  | 2, e => cases e; exact ⟨a.u, by simp [adL], by have g := DGet.k (k := (Sum.inr ("uniques" : Str) : Key)) h; rw [dd_u] at g; exact g⟩
  | 3, e => cases e; exact ⟨a.r, by simp [adL], by have g := DGet.k (k := (Sum.inr ("references" : Str) : Key)) h; rw [dd_r] at g; exact g⟩
  | n + 4, e => simp at e
theorem sch_getK {H : Hp} {S : Addr} {s : Sch} (h : H S = some (.dK (schK s))) (nm : (schN s).Nodup) {p : Ads × Tab} (hp : p ∈ s) : DGet H S (.str p.2.n) (some (.ref p.1.d)) := by
  have g := DGet.k (k := (Sum.inr p.2.n : Key)) h
  rw [sch_get nm hp] at g
  exact g
end Lt

set_option autoImplicit false
namespace Lt
open PySem PySem.Spec PyProof.Rows L2 TL
/-! ## sorted(d) of a dict of any length, its keys all ints or all texts -/
def txV : Value → Str
  | .str x _ => x
  | _ => ⟨#[]⟩
def ltTx (v u : Value) : Bool := decide (tl (txV v) < tl (txV u))
theorem swo_tx : SrtO.Swo ltTx where
  asym := fun x y h => decide_eq_false (List.lt_asymm (of_decide_eq_true h))
  tr := fun x y z h1 h2 => by
    have a := List.not_lt.mp (of_decide_eq_false h1)
    have b := List.not_lt.mp (of_decide_eq_false h2)
    exact decide_eq_false (List.not_lt.mpr (List.le_trans a b))
theorem tx_mem : ∀ {vs : List Value} {xs : List Str}, StrsAre vs xs → ∀ v ∈ vs, ∃ x t, v = Value.str x t
  | _, _, .nil, v, h => by cases h
  | _, _, .cons x t r, v, h => by
    rcases List.mem_cons.mp h with rfl | h
    · exact ⟨x, t, rfl⟩
    · exact tx_mem r v h
theorem tx_of : ∀ {vs : List Value}, (∀ v ∈ vs, ∃ x t, v = Value.str x t) → StrsAre vs (vs.map txV)
  | [], _ => .nil
  | v :: vs, h => by
    obtain ⟨x, t, rfl⟩ := h v List.mem_cons_self
    exact .cons x t (tx_of fun u hu => h u (List.mem_cons_of_mem _ hu))
theorem tx_back : ∀ {vs : List Value} {xs : List Str}, StrsAre vs xs → vs.map txV = xs
  | _, _, .nil => rfl
  | _, _, .cons x t r => congrArg (x :: ·) (tx_back r)
section
variable {prog : Program} {w : World} {A : Around} {s : Shared}
theorem tx_sortable {a : Addr} {vs : List Value} {xs : List Str} (hT : StrsAre vs xs) (h2 : 2 ≤ vs.length) : SrtO.SortableO prog w A s a vs ltTx := fun hq _ => by
  refine ⟨oneType', fun Q E hq => ?_, fun p q hp hq => ?_⟩
  · cases hT with
    | nil => exact absurd h2 (by decide)
    | cons x t r =>
      cases r with
      | nil => exact absurd h2 (by simp)
      | cons y u r => rw [keyKind_strs (.cons x t (.cons y u r))]; exact wpAny_pure hq
  · obtain ⟨x, t, ex⟩ := tx_mem hT _ hp
    obtain ⟨y, u, ey⟩ := tx_mem hT _ hq
    show wpAny _ _ (keyLt' oneType' p.1 q.1) (fun r s' => s' = _ ∧ r = ltTx p.1 q.1) _ _
    rw [ex, ey, keyLt'_oneType]
    exact oneLt_str ⟨rfl, rfl⟩
end
/-- the order of keys of one kind -/
def kLt : Key → Key → Bool
  | .inl a, .inl b => decide (a < b)
  | .inr a, .inr b => decide (tl a < tl b)
  | .inl _, .inr _ => true
  | .inr _, .inl _ => false
def SortedK (ks : List Key) : Prop := ks.Pairwise fun a b => kLt b a = false
/-- keys all ints or all texts -/
def OneKind (ks : List Key) : Prop := (∃ is : List Int, ks = is.map Sum.inl) ∨ ∃ xs : List Str, ks = xs.map Sum.inr
def rSortK : List V → Hp → VK → Prop := fun xs H Q => ∃ (a : Addr) (kvs : List (Key × V)), xs = [.ref a] ∧ Rd H a (.dK kvs) ∧ OneKind (kvs.map (·.1)) ∧
  ∀ (ys : List Key) (p : Addr), ys.Perm (kvs.map (·.1)) → SortedK ys → H p = none → Q (.ref p) (upd H p (.lst (ys.map kV)))
/-- what the sort's machine hands back of items that all are of one kind -/
theorem one_out {vs out : List Value} {ks : List Key} (hk : (∃ is : List Int, IntsAre vs is ∧ ks = is.map Sum.inl ∧ SrtO.Srtd SrtO.ltIv out ∧ SrtO.Stb SrtO.ltIv out vs) ∨ ∃ xs : List Str, StrsAre vs xs ∧ ks = xs.map Sum.inr ∧ SrtO.Srtd ltTx out ∧ SrtO.Stb ltTx out vs) :
    ∃ ys : List Key, Vals (ys.map kV) out ∧ ys.Perm ks ∧ SortedK ys := by
  rcases hk with ⟨is, hI, rfl, hs, hb⟩ | ⟨xs, hT, rfl, hs, hb⟩
  · obtain ⟨k1, k2, k3⟩ := SrtO.ints_out hI hs hb
    refine ⟨(out.map SrtO.iv).map Sum.inl, ?_, k2.map _, ?_⟩
    · have e : ((out.map SrtO.iv).map Sum.inl).map kV = (out.map SrtO.iv).map V.int := by rw [List.map_map]; rfl
      rw [e]; exact vals_of_ints k1
    · refine List.pairwise_map.mpr (k3.imp fun {x y} h => ?_)
      exact decide_eq_false (by omega)
  · have m : ∀ v ∈ out, ∃ x t, v = Value.str x t := fun v hv => tx_mem hT v (hb.perm.mem_iff.mp hv)
    have k1 := tx_of m
    refine ⟨(out.map txV).map Sum.inr, ?_, ?_, ?_⟩
    · have e : ((out.map txV).map Sum.inr).map kV = (out.map txV).map V.str := by rw [List.map_map]; rfl
      rw [e]; exact vals_of_strs k1
    · have q := hb.perm.map txV
      rw [tx_back hT] at q
      exact q.map _
    · refine List.pairwise_map.mpr (List.pairwise_map.mpr (hs.imp fun {x y} h => ?_))
      exact h
section
variable {X : Cx}
theorem call_sortedK (calm : X.calm = true) : CallR X (.builtin "sorted") rSortK := by
  rintro pins s σ H xs us Q I r ⟨a, kvs, rfl, hd, hone, q⟩
  obtain ⟨u, rfl, rx⟩ := vals1 r
  cases rx
  obtain ⟨z, lo, vs, rel, dd⟩ := dk_rd I.hok hd
  obtain ⟨age, stands⟩ := dd.dictAt
  have hlv : vs.length = kvs.length := rel.length.symm
  have h16 : vs.length ≤ sizeLine := by rw [hlv]; exact z
  refine Calls.call_function_entry kind_sorted plain_sorted entry_sorted (args_sorted1 _) ?_; unfold Builtin.«sorted»
  refine wpAny_bind (m := checkCount "sorted" 1 1 _) (wpAny_pure (wpAny_bind (PySem.W.kdu_collect (A := X.A.in1) (PySem.W.kdl_dict (knd := mixKind X.prog X.w) (kvs := vs) (ep := age) lo) (I.ok.hd calm) stands h16 fun hq tok got hk hgot => ?_)))
  have hal : got.toList.length = vs.length := by rw [Array.length_toList, hgot.1]
  have item : ∀ (j : Nat) (v : Value), got.toList[j]? = some v → ∃ k, (kvs.map (·.1))[j]? = some k ∧ keyIs k v = true := fun j v e => by
    obtain ⟨k, x, e1, e2⟩ := hgot.2 j v (by rw [← Array.getElem?_toList]; exact e)
    refine ⟨k, ?_, e2⟩
    rw [rel.keys, List.getElem?_map, e1]; rfl
  have J : Inv X pins σ H { s with heap := hq, toks := tok } := I.kept hk
  have atNew : (hq.push (seqObj "list" got.toList.toArray 0)).get? hq.objs.size = some (seqObj "list" got.toList.toArray 0) := Heap.get?_push_size _ rfl
  have done : ∀ (out : List Value) (ys : List Key), Vals (ys.map kV) out → ys.Perm (kvs.map (·.1)) → SortedK ys →
      EP X pins σ Q (.ref hq.objs.size) { s with heap := sortedHeap (hq.push (seqObj "list" got.toList.toArray 0)) hq.objs.size got.toList out.toArray, toks := tok } := fun out ys g1 g2 g3 => by
    have hlen : (ys.map kV).length ≤ sizeLine := by
      rw [List.length_map, g2.length_eq, List.length_map, ← hlv]; exact h16
    obtain ⟨e', he'⟩ := PyProof.Rows.sortedHeap_at (vs := got.toList) (out := out.toArray) atNew
    have old : ∀ b u, hq.get? b = some u → (sortedHeap (hq.push (seqObj "list" got.toList.toArray 0)) hq.objs.size got.toList out.toArray).get? b = some u := fun b u e => by
      have hb := Heap.lt_size e
      rw [PyProof.Rows.sortedHeap_old (Nat.ne_of_lt hb) (by rw [size_push']; exact Nat.lt_succ_of_lt hb), Heap.get?_push_of_some _ e]
    exact ⟨.ref hq.objs.size, upd H hq.objs.size (.lst (ys.map kV)), J.laid (t' := tok) old (Nat.le_refl _) ⟨hlen, out, e', g1, he'⟩, rfl, q ys _ g2 g3 (J.hok.fresh (Nat.le_refl _))⟩
  have hz : got.toList.length ≤ sizeLine := by rw [hal]; exact h16
  refine wpAny_bind (wpAny_newList ?_ hz)
  rcases hone with ⟨is, hks⟩ | ⟨ts, hks⟩
  · have hI : IntsAre got.toList is := ints_each (by rw [hal, hlv]; have := congrArg List.length hks; simpa using this) fun j v e => by
      obtain ⟨k, e3, e2⟩ := item j v e
      rw [hks, List.getElem?_map] at e3
      cases e4 : is[j]? with
      | none => rw [e4] at e3; cases e3
      | some y =>
        rw [e4] at e3
        cases e3
        rcases keyIs_shape e2 with ⟨i, t, ek, ev⟩ | ⟨x, t, ek, ev⟩ <;> cases ek
        exact ⟨y, t, rfl, ev⟩
    refine wpAny_bind (wpAny_holding (wpAny_call_entry slot_list_sort ⟨_, atNew, rfl⟩ entry_list_sort
      (SrtO.list_sort_ord (s := { s with heap := hq.push (seqObj "list" got.toList.toArray 0), toks := tok }) SrtO.swo_int atNew hz (fun h2 => SrtO.ints_sortable hI h2) fun out h1 h2 => ⟨_, rfl, ?_⟩) (PyProof.Rows.args_list_sort _)))
    obtain ⟨ys, g1, g2, g3⟩ := one_out (.inl ⟨is, hI, hks, h1, h2⟩)
    exact wpAny_pure ⟨_, rfl, done out ys g1 g2 g3⟩
  · have hT : StrsAre got.toList ts := strs_at (by rw [hal, hlv]; have := congrArg List.length hks; simpa using this) fun j v e => by
      obtain ⟨k, e3, e2⟩ := item j v e
      rw [hks, List.getElem?_map] at e3
      cases e4 : ts[j]? with
      | none => rw [e4] at e3; cases e3
      | some y =>
        rw [e4] at e3
        cases e3
        obtain ⟨t, ev⟩ := Value.isStrOf_shape (x := y) (v := v) e2
        exact ⟨y, t, rfl, ev⟩
    refine wpAny_bind (wpAny_holding (wpAny_call_entry slot_list_sort ⟨_, atNew, rfl⟩ entry_list_sort
      (SrtO.list_sort_ord (s := { s with heap := hq.push (seqObj "list" got.toList.toArray 0), toks := tok }) swo_tx atNew hz (fun h2 => tx_sortable hT h2) fun out h1 h2 => ⟨_, rfl, ?_⟩) (PyProof.Rows.args_list_sort _)))
    obtain ⟨ys, g1, g2, g3⟩ := one_out (.inr ⟨ts, hT, hks, h1, h2⟩)
    exact wpAny_pure ⟨_, rfl, done out ys g1 g2 g3⟩
end
end Lt

set_option autoImplicit false
namespace Lt
open PySem L2 TL
open C8 (pss_cut)
/-! ## the one order of keys -/
def kLe (a b : Key) : Bool := !kLt b a
theorem kLe_total (a b : Key) : (kLe a b || kLe b a) = true := by
  unfold kLe kLt
  rcases a with a | a <;> rcases b with b | b
  · by_cases h : b < a
    · simp [show ¬ a < b by omega]
    · simp [h]
  · rfl
  · rfl
  · by_cases h : tl b < tl a
    · simp [List.lt_asymm h]
    · simp [h]
theorem kLe_trans (a b c : Key) : kLe a b = true → kLe b c = true → kLe a c = true := by
  unfold kLe kLt
  rcases a with a | a <;> rcases b with b | b <;> rcases c with c | c <;> simp
  · omega
  · intro h1 h2
    exact List.le_trans h1 h2
theorem kLe_anti (a b : Key) : kLe a b = true → kLe b a = true → a = b := by
  unfold kLe kLt
  rcases a with a | a <;> rcases b with b | b <;> simp
  · omega
  · intro h1 h2
    exact ext_tl (List.le_antisymm h1 h2)
def sortK (ks : List Key) : List Key := ks.mergeSort kLe
theorem sortK_perm (ks : List Key) : (sortK ks).Perm ks := List.mergeSort_perm ks kLe
theorem sortK_srt (ks : List Key) : SortedK (sortK ks) := (List.pairwise_mergeSort kLe_trans kLe_total ks).imp fun {a b} h => by
  unfold kLe at h
  simpa using h
theorem sortK_eq {ys ks : List Key} (p : ys.Perm ks) (s : SortedK ys) : ys = sortK ks := by
  refine List.Perm.eq_of_pairwise (le := fun a b => kLt b a = false) (fun a b _ _ h1 h2 => kLe_anti a b ?_ ?_) s (sortK_srt ks) (p.trans (sortK_perm ks).symm)
  · unfold kLe; rw [h1]; rfl
  · unfold kLe; rw [h2]; rfl
theorem sortK_len (ks : List Key) : (sortK ks).length = ks.length := (sortK_perm ks).length_eq
theorem sortK_mem {ks : List Key} {k : Key} : k ∈ sortK ks ↔ k ∈ ks := (sortK_perm ks).mem_iff
theorem sortK_nd {ks : List Key} (h : ks.Nodup) : (sortK ks).Nodup := (sortK_perm ks).nodup_iff.mpr h
/-! ## states -/
structure Ro where
  k : Key
  a : Addr
  vs : List V
def roK (rs : List Ro) : List (Key × V) := rs.map fun r => (r.k, V.ref r.a)
def roN (rs : List Ro) : List Key := rs.map fun r => r.k
theorem roK_keys (rs : List Ro) : (roK rs).map (·.1) = roN rs := by unfold roK roN; rw [List.map_map]; rfl
/-- the rows rs stand in the dict at d -/
structure TAt (H : Hp) (d : Addr) (rs : List Ro) : Prop where
  dk : H d = some (.dK (roK rs))
  rt : ∀ r ∈ rs, H r.a = some (.tup r.vs)
  nd : (roN rs).Nodup
theorem TAt.mono {H H' : Hp} {d : Addr} {rs : List Ro} (h : TAt H d rs) (kt : KeepT H H') (e : ∀ o, H d = some o → H' d = some o) : TAt H' d rs := ⟨e _ h.dk, fun r hr => kt _ _ (h.rt r hr), h.nd⟩
theorem ro_one {rs : List Ro} (nd : (roN rs).Nodup) {r q : Ro} (hr : r ∈ rs) (hq : q ∈ rs) (e : r.k = q.k) : r = q := by
  obtain ⟨i, hi, ei⟩ := List.getElem_of_mem hr
  obtain ⟨j, hj, ej⟩ := List.getElem_of_mem hq
  have a1 : (roN rs)[i]? = some r.k := by unfold roN; rw [List.getElem?_map, List.getElem?_eq_getElem hi, ei]; rfl
  have a2 : (roN rs)[j]? = some r.k := by unfold roN; rw [List.getElem?_map, List.getElem?_eq_getElem hj, ej]; exact congrArg some e.symm
  have := nd_ix nd a1 a2
  subst this
  rw [← ei, ← ej]
theorem ro_get {rs : List Ro} (nd : (roN rs).Nodup) {r : Ro} (hr : r ∈ rs) : valV (roK rs) r.k = some (.ref r.a) := by
  obtain ⟨i, hi, e⟩ := List.getElem_of_mem hr
  refine valV_at (i := i) (by rw [roK_keys]; exact nd) ?_
  unfold roK
  rw [List.getElem?_map, List.getElem?_eq_getElem hi, e]
  rfl
theorem ro_none {rs : List Ro} {k : Key} (h : k ∉ roN rs) : valV (roK rs) k = none := by
  cases e : valV (roK rs) k with
  | none => rfl
  | some v =>
    have := valV_in e
    rw [roK_keys] at this
    exact absurd this h
theorem ro_mem {rs : List Ro} {k : Key} (h : k ∈ roN rs) : ∃ r ∈ rs, r.k = k := by
  obtain ⟨r, h1, h2⟩ := List.mem_map.mp h
  exact ⟨r, h1, h2⟩
theorem TAt.get {H : Hp} {d : Addr} {rs : List Ro} (h : TAt H d rs) {r : Ro} (hr : r ∈ rs) : DGet H d (kV r.k) (some (.ref r.a)) := by
  have g := DGet.k (k := r.k) h.dk
  rw [ro_get h.nd hr] at g
  exact g
/-- rs with the row r put in -/
def putRo (rs : List Ro) (r : Ro) : List Ro := if (rs.any fun q => decide (q.k = r.k)) = true then rs.map (fun q => if q.k = r.k then ⟨q.k, r.a, r.vs⟩ else q) else rs ++ [r]
theorem putRo_K (rs : List Ro) (r : Ro) : putK (roK rs) r.k (.ref r.a) = roK (putRo rs r) := by
  unfold putK putRo roK
  rw [List.any_map]
  have e : ((fun kv : Key × V => decide (kv.1 = r.k)) ∘ fun r => (r.k, V.ref r.a)) = fun q : Ro => decide (q.k = r.k) := rfl
  rw [e]
  split
  · rw [List.map_map, List.map_map]
    refine List.map_congr_left fun q _ => ?_
    show (if q.k = r.k then (q.k, V.ref r.a) else (q.k, V.ref q.a)) = _
    show _ = ((if q.k = r.k then (⟨q.k, r.a, r.vs⟩ : Ro) else q).k, V.ref (if q.k = r.k then (⟨q.k, r.a, r.vs⟩ : Ro) else q).a)
    split <;> rfl
  · rw [List.map_append]; rfl
theorem putRo_N (rs : List Ro) (r : Ro) : (roN (putRo rs r) = roN rs ∧ r.k ∈ roN rs) ∨ (roN (putRo rs r) = roN rs ++ [r.k] ∧ r.k ∉ roN rs) := by
  unfold putRo roN
  by_cases h : (rs.any fun q => decide (q.k = r.k)) = true
  · have h2 : r.k ∈ rs.map fun r => r.k := by
      obtain ⟨q, h1, h2⟩ := List.any_eq_true.mp h
      exact List.mem_map.mpr ⟨q, h1, of_decide_eq_true h2⟩
    rw [if_pos h]
    refine .inl ⟨?_, h2⟩
    rw [List.map_map]
    refine List.map_congr_left fun q _ => ?_
    show (if q.k = r.k then (⟨q.k, r.a, r.vs⟩ : Ro) else q).k = q.k
    split <;> rfl
  · have h2 : ¬ r.k ∈ rs.map fun r => r.k := fun z => by
      obtain ⟨q, h1, h2⟩ := List.mem_map.mp z
      exact h (List.any_eq_true.mpr ⟨q, h1, decide_eq_true h2⟩)
    rw [if_neg h]
    exact .inr ⟨by rw [List.map_append]; rfl, h2⟩
theorem putRo_nd {rs : List Ro} (nd : (roN rs).Nodup) (r : Ro) : (roN (putRo rs r)).Nodup := by
  rcases putRo_N rs r with ⟨e, _⟩ | ⟨e, h⟩ <;> rw [e]
  · exact nd
  · refine List.nodup_append.mpr ⟨nd, by simp, fun x hx y hy => ?_⟩
    have : y = r.k := by simpa using hy
    subst this
    rintro rfl
    exact h hx
theorem putRo_len (rs : List Ro) (r : Ro) : (putRo rs r).length ≤ rs.length + 1 := by
  unfold putRo
  split
  · rw [List.length_map]; omega
  · rw [List.length_append]; simp
/-- a row put in is the one, or one of before -/
theorem putRo_mem {rs : List Ro} {r q : Ro} (h : q ∈ putRo rs r) : (q.k = r.k ∧ q.a = r.a ∧ q.vs = r.vs) ∨ q ∈ rs := by
  unfold putRo at h
  split at h
  · obtain ⟨x, h1, h2⟩ := List.mem_map.mp h
    split at h2
    · rename_i e
      rw [← h2]
      exact .inl ⟨e, rfl, rfl⟩
    · rw [← h2]; exact .inr h1
  · rcases List.mem_append.mp h with h | h
    · exact .inr h
    · rw [List.mem_singleton.mp h]; exact .inl ⟨rfl, rfl, rfl⟩
/-- the rows of a table fit its columns -/
structure RowFit (cols : List Col) (r : Ro) : Prop where
  k : ∀ c, cols[0]? = some c → ValOf c.k false (kV r.k)
  r : RestOf cols r.vs
theorem one_kind {cols : List Col} {rs : List Ro} {c : Col} (hc : cols[0]? = some c) (h : ∀ r ∈ rs, RowFit cols r) : OneKind (roN rs) := by
  by_cases e : c.k = ("int" : Str)
  · refine .inl ⟨(roN rs).map (fun k => match k with | .inl i => i | .inr _ => 0), ?_⟩
    rw [List.map_map]
    refine (List.map_congr_left (g := id) fun k hk => ?_).trans (List.map_id _) |>.symm
    obtain ⟨r, hr, rfl⟩ := ro_mem hk
    have v := (h r hr).k c hc
    cases hk2 : r.k with
    | inl i => rfl
    | inr x =>
      rw [hk2] at v
      rcases v with ⟨z, _⟩ | ⟨_, i, z, _⟩ | ⟨z, _⟩
      · cases z
      · cases z
      · exact absurd e z
  · refine .inr ⟨(roN rs).map (fun k => match k with | .inl i => "" | .inr x => x), ?_⟩
    rw [List.map_map]
    refine (List.map_congr_left (g := id) fun k hk => ?_).trans (List.map_id _) |>.symm
    obtain ⟨r, hr, rfl⟩ := ro_mem hk
    have v := (h r hr).k c hc
    cases hk2 : r.k with
    | inr x => rfl
    | inl i =>
      rw [hk2] at v
      rcases v with ⟨z, _⟩ | ⟨z, _⟩ | ⟨_, y, z, _⟩
      · cases z
      · exact absurd z e
      · cases z
/-! ### rows as tuples -/
def restAt (rs : List Ro) (k : Key) : List V := match rs.find? (fun r => decide (r.k = k)) with | some r => r.vs | none => []
def rowsM (rs : List Ro) : List (List V) := (sortK (roN rs)).map fun k => kV k :: restAt rs k
theorem restAt_eq {rs : List Ro} (nd : (roN rs).Nodup) {r : Ro} (hr : r ∈ rs) : restAt rs r.k = r.vs := by
  unfold restAt
  cases e : rs.find? (fun q => decide (q.k = r.k)) with
  | none =>
    have := List.find?_eq_none.mp e r hr
    simp at this
  | some q =>
    have h1 := List.mem_of_find?_eq_some e
    have h2 : q.k = r.k := by simpa using List.find?_some e
    rw [ro_one nd h1 hr h2]
theorem rowsM_len (rs : List Ro) : (rowsM rs).length = rs.length := by unfold rowsM; rw [List.length_map, sortK_len]; unfold roN; rw [List.length_map]
theorem rowsM_mem {rs : List Ro} (nd : (roN rs).Nodup) {x : List V} (h : x ∈ rowsM rs) : ∃ r ∈ rs, x = kV r.k :: r.vs := by
  obtain ⟨k, hk, rfl⟩ := List.mem_map.mp h
  obtain ⟨r, hr, rfl⟩ := ro_mem (sortK_mem.mp hk)
  exact ⟨r, hr, by rw [restAt_eq nd hr]⟩
/-- a list of tuples stands at L -/
def RowsAt (H : Hp) (L : Addr) (rws : List (List V)) : Prop := ∃ as : List Addr, H L = some (.lst (as.map V.ref)) ∧ as.length = rws.length ∧ ∀ (i : Nat) (a : Addr) (r : List V), as[i]? = some a → rws[i]? = some r → H a = some (.tup r)
theorem RowsAt.mono {H H' : Hp} {L : Addr} {rws : List (List V)} (h : RowsAt H L rws) (kt : KeepT H H') (e : ∀ o, H L = some o → H' L = some o) : RowsAt H' L rws := by
  obtain ⟨as, h1, h2, h3⟩ := h
  exact ⟨as, e _ h1, h2, fun i a r ha hr => kt _ _ (h3 i a r ha hr)⟩
theorem RowsAt.same {H H' : Hp} {L : Addr} {rws : List (List V)} (h : RowsAt H L rws) (e : Same H H') : RowsAt H' L rws := h.mono (KeepT.of e) fun o => e _ _
theorem RowsAt.get {H : Hp} {L : Addr} {rws : List (List V)} (h : RowsAt H L rws) : ∃ xs, H L = some (.lst xs) ∧ xs.length = rws.length ∧ ∀ (i : Nat) (x : V), xs[i]? = some x → ∃ (a : Addr) (r : List V), x = .ref a ∧ rws[i]? = some r ∧ H a = some (.tup r) := by
  obtain ⟨as, h1, h2, h3⟩ := h
  refine ⟨_, h1, by rw [List.length_map]; exact h2, fun i x hx => ?_⟩
  rw [List.getElem?_map] at hx
  cases e : as[i]? with
  | none => rw [e] at hx; cases hx
  | some a =>
    rw [e] at hx
    cases hx
    have hi := (List.getElem?_eq_some_iff.mp e).1
    have er : rws[i]? = some rws[i] := List.getElem?_eq_getElem (by omega)
    exact ⟨a, rws[i], rfl, er, h3 i a _ e er⟩
/-- the state of a table, by its name -/
structure TS where
  n : Str
  d : Addr
  rs : List Ro
def stK (st : List TS) : List (Key × V) := st.map fun p => ((Sum.inr p.n : Key), V.ref p.d)
def stN (st : List TS) : List Str := st.map fun p => p.n
theorem st_keys (st : List TS) : (stK st).map (·.1) = (stN st).map Sum.inr := by unfold stK stN; rw [List.map_map, List.map_map]; rfl
structure StAt (H : Hp) (T : Addr) (st : List TS) : Prop where
  sk : H T = some (.dK (stK st))
  ds : ∀ p ∈ st, TAt H p.d p.rs
  nm : (stN st).Nodup
theorem StAt.mono {H H' : Hp} {T : Addr} {st : List TS} (h : StAt H T st) (e : Same H H') : StAt H' T st := ⟨e _ _ h.sk, fun p hp => (h.ds p hp).mono (KeepT.of e) fun o => e _ _, h.nm⟩
theorem st_nd {st : List TS} (h : (stN st).Nodup) : ((stK st).map (·.1)).Nodup := by
  rw [st_keys]
  exact List.Pairwise.map _ (fun a b e z => e (Sum.inr.inj z)) h
theorem st_get {st : List TS} (h : (stN st).Nodup) {p : TS} (hp : p ∈ st) : valV (stK st) (Sum.inr p.n : Key) = some (.ref p.d) := by
  obtain ⟨i, hi, e⟩ := List.getElem_of_mem hp
  refine valV_at (i := i) (st_nd h) ?_
  unfold stK
  rw [List.getElem?_map, List.getElem?_eq_getElem hi, e]
  rfl
theorem StAt.get {H : Hp} {T : Addr} {st : List TS} (h : StAt H T st) {p : TS} (hp : p ∈ st) : DGet H T (.str p.n) (some (.ref p.d)) := by
  have g := DGet.k (k := (Sum.inr p.n : Key)) h.sk
  rw [st_get h.nm hp] at g
  exact g
theorem st_in {st : List TS} {n : Str} (h : n ∈ stN st) : ∃ p ∈ st, p.n = n := by
  obtain ⟨p, h1, h2⟩ := List.mem_map.mp h
  exact ⟨p, h1, h2⟩
theorem st_one {st : List TS} (h : (stN st).Nodup) {p q : TS} (hp : p ∈ st) (hq : q ∈ st) (e : p.n = q.n) : p = q := by
  obtain ⟨i, hi, ei⟩ := List.getElem_of_mem hp
  obtain ⟨j, hj, ej⟩ := List.getElem_of_mem hq
  have a1 : (stN st)[i]? = some p.n := by unfold stN; rw [List.getElem?_map, List.getElem?_eq_getElem hi, ei]; rfl
  have a2 : (stN st)[j]? = some p.n := by unfold stN; rw [List.getElem?_map, List.getElem?_eq_getElem hj, ej]; exact congrArg some e.symm
  have := nd_ix h a1 a2
  subst this
  rw [← ei, ← ej]
/-! ### a state as data -/
def rowG (vs : List V) : G := .t (vs.map G.s)
def tabStG (rs : List Ro) : G := .d (rs.map fun r => (r.k, rowG r.vs))
def stG (st : List TS) : G := .d (st.map fun p => ((Sum.inr p.n : Key), tabStG p.rs))
theorem scals_L {H : Hp} : ∀ {xs : List V}, (∀ v ∈ xs, isScal v = true) → GpL H xs (xs.map G.s) []
  | [], _ => .nil
  | x :: r, h => GpL.cons (D := []) (E := []) (.s (h x List.mem_cons_self)) (scals_L fun v hv => h v (List.mem_cons_of_mem _ hv))
theorem rows_gp {H : Hp} : ∀ {rs : List Ro}, (∀ r ∈ rs, H r.a = some (.tup r.vs)) → (∀ r ∈ rs, r.vs.length ≤ 100 ∧ ∀ v ∈ r.vs, isScal v = true) → GpK H (roK rs) (rs.map fun r => (r.k, rowG r.vs)) []
  | [], _, _ => .nil
  | r :: rs, h, k => by
    have := rows_gp (fun q hq => h q (List.mem_cons_of_mem _ hq)) (fun q hq => k q (List.mem_cons_of_mem _ hq))
    have k1 := k r List.mem_cons_self
    exact GpK.cons (D := []) (E := []) (.t (h r List.mem_cons_self) (by omega) (scals_L k1.2)) this
theorem RestOf.scal {cols : List Col} {vs : List V} (h : RestOf cols vs) : ∀ v ∈ vs, isScal v = true := fun v hv => by
  obtain ⟨i, hi, e⟩ := List.getElem_of_mem hv
  have := h.1
  exact (h.2 i cols[i + 1] v (List.getElem?_eq_getElem (by omega)) (by rw [List.getElem?_eq_getElem hi, e])).scal
/-- the rows of a table: few, and each fits -/
structure TabFit (cols : List Col) (rs : List Ro) : Prop where
  l : rs.length ≤ 200
  f : ∀ r ∈ rs, RowFit cols r
theorem tabst_gp {H : Hp} {d : Addr} {rs : List Ro} {cols : List Col} (h : TAt H d rs) (f : TabFit cols rs) (hc : cols.length ≤ 50) : Gp H (.ref d) (tabStG rs) [d] := by
  have := f.l
  refine .d h.dk (by unfold roK; rw [List.length_map]; omega) (by rw [roK_keys]; exact h.nd) (rows_gp h.rt fun r hr => ?_) (by intro z; cases z)
  have k := (f.f r hr).r
  have := k.1
  exact ⟨by omega, k.scal⟩
theorem tabst_dep (rs : List Ro) : (tabStG rs).dep ≤ 2 := by
  have : depK (rs.map fun r => (r.k, rowG r.vs)) ≤ 1 := depK_le fun p hp => by
    obtain ⟨r, _, rfl⟩ := List.mem_map.mp hp
    have : depL (r.vs.map G.s) ≤ 0 := depL_le fun g hg => by
      obtain ⟨v, _, rfl⟩ := List.mem_map.mp hg
      exact Nat.le_refl 0
    simp only [rowG, G.dep]; omega
  simp only [tabStG, G.dep]; omega
theorem st_dep (st : List TS) : (stG st).dep ≤ 3 := by
  have : depK (st.map fun p => ((Sum.inr p.n : Key), tabStG p.rs)) ≤ 2 := depK_le fun p hp => by
    obtain ⟨t, _, rfl⟩ := List.mem_map.mp hp
    exact tabst_dep _
  simp only [stG, G.dep]; omega
theorem sts_gp {H : Hp} : ∀ {st : List TS}, (∀ p ∈ st, TAt H p.d p.rs) → (∀ p ∈ st, ∃ cols : List Col, cols.length ≤ 50 ∧ TabFit cols p.rs) → GpK H (stK st) (st.map fun p => ((Sum.inr p.n : Key), tabStG p.rs)) (st.map fun p => p.d)
  | [], _, _ => .nil
  | p :: r, h, k => by
    have q := sts_gp (fun q hq => h q (List.mem_cons_of_mem _ hq)) (fun q hq => k q (List.mem_cons_of_mem _ hq))
    obtain ⟨cols, h1, h2⟩ := k p List.mem_cons_self
    exact GpK.cons (D := [p.d]) (tabst_gp (h p List.mem_cons_self) h2 h1) q
theorem StAt.g {H : Hp} {T : Addr} {st : List TS} (A : StAt H T st) (k : ∀ p ∈ st, ∃ cols : List Col, cols.length ≤ 50 ∧ TabFit cols p.rs) (l : st.length ≤ 100) (ne : ∀ p ∈ st, p.d ≠ T) : Gp H (.ref T) (stG st) (T :: st.map fun p => p.d) := by
  refine .d A.sk (by unfold stK; rw [List.length_map]; omega) (st_nd A.nm) (sts_gp A.ds k) fun hm => ?_
  obtain ⟨p, hp, e⟩ := List.mem_map.mp hm
  exact ne p hp e
end Lt

set_option autoImplicit false
/-! ## list(reversed(a list)) -/
namespace LtR
open PySem PySem.Spec PyProof.Rows L2 RT
section
variable {prog : Program} {w : World} {A : Around} {E : Value → Shared → Prop} {s : Shared}
theorem rev_extend {it l : Addr} {items : Array Value} {R : Result → Shared → Prop} (hh : A.handled = none) (hit : s.heap.IsRevIter it l ((items.size : Int) - 1)) (hl : s.heap.IsList l items) (hne : l ≠ it) (hn : items.size ≤ sizeLine)
    (S : Addr) (hSi : S ≠ it) (hSl : S ≠ l) (res : Value) (c₀ : Nat) (hS : s.heap.get? S = some { cls := .type "list", data := .seq #[] c₀ })
    (hR : ∀ h' tk acc' c', (∀ b o, b ≠ S → b ≠ it → s.heap.get? b = some o → h'.get? b = some o) → h'.get? S = some { cls := .type "list", dict := none, data := .seq acc' c', slots := #[] } → ItemsOf (fun i v => items[items.size - 1 - i]? = some v) acc' items.size → R (.ok (.ret res)) { s with heap := h', toks := tk }) :
    wpAny (model prog w) A.in1 (Builtin.List.listExtendWith (.ref S) (.ref it) res)
      (fun fin s' => match fin with | .done f => R (.ok f) s' | .again c' => c'.quiet = true ∧ codeAny (model prog w) A c' R s') (fun e s' => R (.error e) s') s := by
  have W := (Walks.listRev (prog := prog) (w := w) (A := A.in1) hh it l hne items).toS
  have hSf : S ∉ [it, l] := by simp only [List.mem_cons, List.not_mem_nil, or_false, not_or]; exact ⟨hSi, hSl⟩
  have hT : s.TypeIs (.ref it) "list_reverseiterator" := hit.typeIs
  have h1 : Builtin.List.listSameRef (.ref S) (.ref it) = false := by simp [Builtin.List.listSameRef, hSi]
  unfold Builtin.List.listExtendWith
  refine wpAny_bind (wpAny_typeOf hT ?_)
  rw [if_neg (by rw [h1]; decide)]
  refine wpAny_bind (wpAny_pyIter_revIter hit ?_)
  refine wpAny_bind (wpAny_holding ?_)
  unfold Builtin.List.listLengthHint
  refine wpAny_bind (wpAny_specialOf hT nolen_lri ?_)
  show wpAny _ A.in1 (specialOf (Value.ref it) (Str.ofString "__length_hint__") >>= _) _ _ _
  refine wpAny_bind (wpAny_specialOf hT hint_lri ?_)
  generalize hid : ("list_reverseiterator.__length_hint__" : String) = id0
  wp_delta
  rw [show splitId id0 = some ("list_reverseiterator", "__length_hint__") from by subst hid; decide +kernel]
  subst hid
  refine wpAny_bind (wpAny_isInstance (b := true) hT (by rw [isSubtype_type]; kernel_rfl) ?_)
  refine wpAny_pure ?_
  rw [if_neg (by decide)]
  have e0 : ((items.size : Nat) : Int) - 1 - ((0 : Nat) : Int) = (items.size : Int) - 1 := by omega
  refine wpAny_pure ⟨plainId_quiet F.plain_extend_loop _, codeAny_extend_loopS W hn _ hSf _ items.size 0 _ _ _ rfl (Nat.zero_le _) ⟨Nat.zero_le _, by rw [e0]; exact hit, hl⟩ hS (ItemsOf.nil _) fun s' acc' c' hm hS' hacc => ?_⟩
  rw [Moved.eq_with hm]
  refine hR s'.heap s'.toks acc' c' (fun b o hb hbi e => hm.heap b o (fun hmem => ?_) e) hS' hacc
  rcases List.mem_cons.mp hmem with e' | hmem
  · exact hb e'
  · exact hbi (List.mem_singleton.mp hmem)
theorem rev_init {it l : Addr} {items : Array Value} {R : Result → Shared → Prop} (hh : A.handled = none) (hit : s.heap.IsRevIter it l ((items.size : Int) - 1)) (hl : s.heap.IsList l items) (hne : l ≠ it) (hn : items.size ≤ sizeLine)
    (S : Addr) (hSi : S ≠ it) (hSl : S ≠ l) (hS : s.heap.get? S = some { cls := .type "list", data := .seq #[] })
    (hR : ∀ h' tk acc' c', (∀ b o, b ≠ S → b ≠ it → s.heap.get? b = some o → h'.get? b = some o) → h'.get? S = some { cls := .type "list", dict := none, data := .seq acc' c', slots := #[] } → ItemsOf (fun i v => items[items.size - 1 - i]? = some v) acc' items.size → R (.ok (.ret .none)) { s with heap := h', toks := tk }) :
    wpAny (model prog w) A.in1 (Builtin.«list.__init__» ⟨[.ref S, .ref it], []⟩)
      (fun fin s' => match fin with | .done f => R (.ok f) s' | .again c' => c'.quiet = true ∧ codeAny (model prog w) A c' R s') (fun e s' => R (.error e) s') s := by
  show wpAny _ _ (do let old ← Builtin.List.listItems (.ref S); Builtin.List.listUpdate (.ref S) (fun _ => #[]); letGo old.toList.reverse; Builtin.List.listExtendWith (.ref S) (.ref it) .none) _ _ s
  refine wpAny_bind ?_
  unfold Builtin.List.listItems
  refine wpAny_bind (wpAny_seqItems hS rfl (wpAny_pure ?_))
  show wpAny _ _ (updateSeq S (fun _ => #[]) >>= fun _ => letGo (#[] : Array Value).toList.reverse >>= fun _ => Builtin.List.listExtendWith (.ref S) (.ref it) .none) _ _ s
  refine wpAny_bind (wpAny_updateSeq hS rfl ?_)
  have hS₂ := Heap.get?_update_self (Obj.mapSeq (fun _ => (#[] : Array Value))) hS rfl
  have oth : ∀ b o, b ≠ S → s.heap.get? b = some o → (s.heap.update S (Obj.mapSeq (fun _ => (#[] : Array Value)))).get? b = some o :=
    fun b o hb e => (Heap.get?_update_other _ _ (Ne.symm hb)).trans e
  refine wpAny_bind (wpAny_letGo ?_)
  refine rev_extend hh (hit.at fun o e => oth it o hSi.symm e) (hl.at fun o e => oth l o hSl.symm e) hne hn S hSi hSl .none _ hS₂ (fun h' tk acc' c' hk hS' hacc => ?_)
  exact hR h' tk acc' c' (fun b o hb hbi e => hk b o hb hbi (oth b o hb e)) hS' hacc
theorem call_list_rev {it l : Addr} {items : Array Value} {Q : Value → Shared → Prop} (hh : A.handled = none) (hit : s.heap.IsRevIter it l ((items.size : Int) - 1)) (hl : s.heap.IsList l items) (hne : l ≠ it) (hn : items.size ≤ sizeLine)
    (hQ : ∀ h' tk acc' c', (∀ b o, b ≠ it → s.heap.get? b = some o → h'.get? b = some o) → h'.get? s.heap.objs.size = some { cls := .type "list", dict := none, data := .seq acc' c', slots := #[] } → ItemsOf (fun i v => items[items.size - 1 - i]? = some v) acc' items.size → Q (.ref s.heap.objs.size) { s with heap := h', toks := tk }) :
    wpAny (model prog w) A (call (.type "list") [.ref it]) Q E s := by
  refine callType_codes (Q₁ := fun obj s₁ => obj = .ref s.heap.objs.size ∧ s₁ = { s with heap := s.heap.push { cls := .type "list", data := .seq #[] } }) PySem.F.called_list (PySem.F.typeCall_list_1 _) PySem.F.entry_list_init
    (code_list_new _ ⟨rfl, rfl⟩) fun obj s₁ h₁ => ?_
  obtain ⟨rfl, rfl⟩ := h₁
  have hS : (s.heap.push { cls := .type "list", data := .seq #[] }).get? s.heap.objs.size = some { cls := .type "list", data := .seq #[] } := Heap.get?_push_size _ rfl
  obtain ⟨oi, hoi, _⟩ := id hit
  obtain ⟨ol, hol, _⟩ := id hl
  have hSi : s.heap.objs.size ≠ it := Nat.ne_of_gt (Heap.lt_size hoi)
  have hSl : s.heap.objs.size ≠ l := Nat.ne_of_gt (Heap.lt_size hol)
  refine ⟨⟨_, hS, rfl⟩, PySem.F.args_list_init_2 _ _, rev_init (A := A.in1) hh (hit.at fun o e => Heap.get?_push_of_some _ e) (hl.push _) hne hn _ hSi hSl hS (fun h' tk acc' c' hk hS' hacc => ?_)⟩
  exact ⟨rfl, hQ h' tk acc' c' (fun b o hb e => hk b o (Nat.ne_of_lt (Heap.lt_size e)) hb (Heap.get?_push_of_some _ e)) hS' hacc⟩
end
def tLstRev (K : PySem.W.Frag) (te : TE) : TE := fun σ H Q => te σ H fun v H1 => ∃ (a : Addr) (xs : List V), v = .ref a ∧ SqL K H1 a xs ∧ ∀ q, H1 q = none → Q (.ref q) (upd H1 q (.lst xs.reverse))
theorem pe_lstRev {X : Cx} {e : Expr} {te : TE} {p p2 pos pos2 : Pos} (hc : X.calm = true) (hg : Gl X "list") (hm : X.mg "list" = none) (hg2 : Gl X "reversed") (hm2 : X.mg "reversed" = none) (he : PE X e te)
    (hs : starEach [e] X.env = (false, eval e X.env) :: starEach [] X.env := by rfl)
    (hs2 : starEach [.Call (.Name "reversed" p2) [e] [] pos2] X.env = (false, eval (.Call (.Name "reversed" p2) [e] [] pos2) X.env) :: starEach [] X.env := by rfl) :
    PE X (.Call (.Name "list" p) [.Call (.Name "reversed" p2) [e] [] pos2] [] pos) (tLstRev X.K te) := by
  refine ⟨fun pins s σ H Q I h => ?_⟩
  refine Call_ (ld_blt I hg hm boot_list (PyProof.Rows.callWith_type1 (args_cons (Call_ (ld_blt I hg2 hm2 PyProof.Rows.boot_reversed (PyProof.Rows.callWith_type1 (args_cons (thn (he.run pins s σ H _ I h) fun u s1 ⟨v, H1, I1, r1, q1⟩ => args_nil ?_) hs) hs rfl))) hs2) hs2 rfl))
  obtain ⟨a, xs, ev, hq, q⟩ := q1
  subst ev
  obtain rfl : u = Value.ref a := r1
  obtain ⟨its, rv, p', hz⟩ := I1.list hq
  refine call_reversed_list p'.isList (args_nil ?_)
  have k0 : ∀ b o, s1.heap.get? b = some o → (s1.heap.push (revObj a ((its.toArray.size : Int) - 1))).get? b = some o := fun b o e => Heap.get?_push_of_some _ e
  have I2 : Inv X pins σ H1 { s1 with heap := s1.heap.push (revObj a ((its.toArray.size : Int) - 1)) } := I1.kept (t' := s1.toks) k0
  obtain ⟨f0, f1, f2, f3, f4, f5⟩ := I1.fpOk (H' := H1) (b := s1.heap.objs.size) (Nat.le_refl _) (I1.hok.fresh (Nat.le_refl _))
  have hl := p'.isList
  obtain ⟨ol, hol, _⟩ := id hl
  have hne : a ≠ s1.heap.objs.size := Nat.ne_of_lt (Heap.lt_size hol)
  have hn : its.toArray.size ≤ sizeLine := by rw [List.size_toArray, ← rv.length]; exact hz
  refine call_list_rev (s := { s1 with heap := s1.heap.push (revObj a ((its.toArray.size : Int) - 1)) }) (I1.ok.hd hc) ⟨_, Heap.get?_push_size _ rfl, rfl, rfl⟩ (hl.push _) hne hn fun h' tk acc c' hk hS hi => ?_
  have hsz : (s1.heap.push (revObj a ((its.toArray.size : Int) - 1))).objs.size = s1.heap.objs.size + 1 := by simp [Heap.push]
  have k3 : ∀ b o, s1.heap.get? b = some o → h'.get? b = some o := fun b o e => hk b o (Nat.ne_of_lt (Heap.lt_size e)) (Heap.get?_push_of_some _ e)
  refine ⟨.ref (s1.heap.push (revObj a ((its.toArray.size : Int) - 1))).objs.size, upd H1 (s1.heap.push (revObj a ((its.toArray.size : Int) - 1))).objs.size (.lst xs.reverse), I1.laid (t' := tk) k3 (by rw [hsz]; exact Nat.le_succ _) (show ObjOk X.prog X.w _ _ _ (.lst xs.reverse) from ⟨by rw [List.length_reverse]; exact hz, acc.toList, c', vals_rev rv hi, ?_⟩), rfl, q _ (I1.hok.fresh (by rw [hsz]; exact Nat.le_succ _))⟩
  rw [Array.toArray_toList]
  exact hS
end LtR

set_option autoImplicit false
/-! ## packed data -/
namespace Lt
open PySem PySem.Spec PyProof.Rows L2 TL
/-- one walk of two -/
theorem pi_either {X : Cx} {tg e : Expr} {w1 w2 : TI} (h1 : PI X tg e w1) (h2 : PI X tg e w2) : PI X tg e (fun σ H R => w1 σ H R ∨ w2 σ H R) :=
  ⟨fun pins s σ H R I h => by rcases h with h | h; exact h1.run pins s σ H R I h; exact h2.run pins s σ H R I h⟩
/-! ### bytes of a number -/
/-- the lowest first -/
def nbR : Nat → Nat → List Int
  | _, 0 => []
  | n, k + 1 => ((n % 256 : Nat) : Int) :: nbR (n / 256) k
def nb (n k : Nat) : List Int := (nbR n k).reverse
theorem nbR_len : ∀ (n k : Nat), (nbR n k).length = k
  | _, 0 => rfl
  | n, k + 1 => by simp [nbR, nbR_len (n / 256) k]
theorem nb_len (n k : Nat) : (nb n k).length = k := by unfold nb; rw [List.length_reverse, nbR_len]
theorem nbR_snoc : ∀ (k n : Nat), nbR n (k + 1) = nbR n k ++ [((n / 256 ^ k % 256 : Nat) : Int)]
  | 0, n => by simp [nbR]
  | k + 1, n => by
    show ((n % 256 : Nat) : Int) :: nbR (n / 256) (k + 1) = (((n % 256 : Nat) : Int) :: nbR (n / 256) k) ++ _
    rw [nbR_snoc k (n / 256), Nat.div_div_eq_div_mul, ← Nat.pow_succ']
    rfl
/-- the number of bytes, the highest first -/
def valB (bs : List Int) : Int := bs.foldl (fun a b => a * 256 + b) 0
theorem valB_snoc (bs : List Int) (b : Int) : valB (bs ++ [b]) = valB bs * 256 + b := by unfold valB; rw [List.foldl_append]; rfl
theorem valB_nb : ∀ (k n : Nat), n < 256 ^ k → valB (nb n k) = n
  | 0, n, h => by
    have : n = 0 := by simpa using h
    subst this; rfl
  | k + 1, n, h => by
    have h1 : n / 256 < 256 ^ k := by
      rw [Nat.pow_succ] at h
      exact Nat.div_lt_of_lt_mul (by rw [Nat.mul_comm]; exact h)
    have e : nb n (k + 1) = nb (n / 256) k ++ [((n % 256 : Nat) : Int)] := by unfold nb; simp [nbR]
    rw [e, valB_snoc, valB_nb k _ h1]
    omega
theorem nbR_byte : ∀ (k n : Nat) (x : Int), x ∈ nbR n k → 0 ≤ x ∧ x ≤ 255
  | 0, n, x, h => by cases h
  | k + 1, n, x, h => by
    rcases List.mem_cons.mp h with rfl | h
    · omega
    · exact nbR_byte k _ x h
theorem nb_byte {k n : Nat} {x : Int} (h : x ∈ nb n k) : 0 ≤ x ∧ x ≤ 255 := nbR_byte k n x (List.mem_reverse.mp h)
/-! ### data that may be packed -/
def okS : V → Prop
  | .non => True
  | .bl _ => True
  | .int i => -4294967295 ≤ i ∧ i ≤ 4294967295
  | .str z => z.length ≤ 400 ∧ ∀ c ∈ tl z, chOk c
  | _ => False
/-- data nested at most n deep -/
inductive DOk : Nat → G → Prop
  | s {n : Nat} {v : V} (h : okS v) : DOk n (.s v)
  | t {n : Nat} {gs : List G} (l : gs.length ≤ 4) (h : ∀ g ∈ gs, DOk n g) : DOk (n + 1) (.t gs)
  | l {n : Nat} {gs : List G} (l : gs.length ≤ 4) (h : ∀ g ∈ gs, DOk n g) : DOk (n + 1) (.l gs)
  | d {n : Nat} {ks : List (Key × G)} (l : ks.length ≤ 4) (nd : (ks.map (·.1)).Nodup) (k : ∀ p ∈ ks, okS (kV p.1)) (h : ∀ p ∈ ks, DOk n p.2) : DOk (n + 1) (.d ks)
theorem okS.scal {v : V} (h : okS v) : isScal v = true := by
  cases v <;> first | rfl | exact h.elim
def packS : V → List Int
  | .non => [0]
  | .bl b => [if b = true then 2 else 1]
  | .int i => if i < 0 then 4 :: nb (-i).toNat 4 else 3 :: nb i.toNat 4
  | .str z => 5 :: (nb z.length 2 ++ (tl z).map fun c => ((c : Nat) : Int))
  | _ => []
def itemP (l : List (Key × List Int)) (k : Key) : List Int := match l.find? (fun p => decide (p.1 = k)) with | some p => p.2 | none => []
def entP (l : List (Key × List Int)) (k : Key) : List Int := packS (kV k) ++ itemP l k
mutual
def packM : G → List Int
  | .s v => packS v
  | .t gs => 6 :: (nb gs.length 2 ++ packL gs)
  | .l gs => 7 :: (nb gs.length 2 ++ packL gs)
  | .d ks => 8 :: (nb ks.length 2 ++ (sortK ((packK ks).map (·.1))).flatMap (entP (packK ks)))
def packL : List G → List Int
  | [] => []
  | g :: gs => packM g ++ packL gs
def packK : List (Key × G) → List (Key × List Int)
  | [] => []
  | (k, g) :: r => (k, packM g) :: packK r
end
theorem packL_map : ∀ gs : List G, packL gs = gs.flatMap packM
  | [] => rfl
  | g :: gs => by rw [packL, packL_map gs]; rfl
theorem packK_map : ∀ ks : List (Key × G), packK ks = ks.map fun p => (p.1, packM p.2)
  | [] => rfl
  | (k, g) :: r => by rw [packK, packK_map r]; rfl
theorem packK_keys (ks : List (Key × G)) : (packK ks).map (·.1) = ks.map (·.1) := by rw [packK_map, List.map_map]; rfl
/-- the data that stand under a key -/
def lkG (ks : List (Key × G)) (k : Key) : G := match ks.find? (fun p => decide (p.1 = k)) with | some p => p.2 | none => .s .non
theorem lkG_mem {ks : List (Key × G)} (nd : (ks.map (·.1)).Nodup) {k : Key} {g : G} (h : (k, g) ∈ ks) : lkG ks k = g := by
  unfold lkG
  cases e : ks.find? (fun p => decide (p.1 = k)) with
  | none =>
    have := List.find?_eq_none.mp e _ h
    simp at this
  | some q =>
    have h1 := List.mem_of_find?_eq_some e
    have h2 : q.1 = k := by simpa using List.find?_some e
    obtain ⟨i, hi, ei⟩ := List.getElem_of_mem h1
    obtain ⟨j, hj, ej⟩ := List.getElem_of_mem h
    have a1 : (ks.map (·.1))[i]? = some k := by rw [List.getElem?_map, List.getElem?_eq_getElem hi, ei]; exact congrArg some h2
    have a2 : (ks.map (·.1))[j]? = some k := by rw [List.getElem?_map, List.getElem?_eq_getElem hj, ej]; rfl
    have := nd_ix nd a1 a2
    subst this
    rw [ei] at ej
    rw [ej]
theorem lkG_in {ks : List (Key × G)} {k : Key} (h : k ∈ ks.map (·.1)) : (k, lkG ks k) ∈ ks := by
  unfold lkG
  cases e : ks.find? (fun p => decide (p.1 = k)) with
  | none =>
    obtain ⟨p, h1, h2⟩ := List.mem_map.mp h
    have := List.find?_eq_none.mp e _ h1
    simp [h2] at this
  | some q =>
    have h1 := List.mem_of_find?_eq_some e
    have h2 : q.1 = k := by simpa using List.find?_some e
    obtain ⟨a, b⟩ := q
    cases h2
    exact h1
theorem itemP_eq (ks : List (Key × G)) {k : Key} (h : k ∈ ks.map (·.1)) : itemP (packK ks) k = packM (lkG ks k) := by
  unfold itemP lkG
  rw [packK_map, List.find?_map]
  have e : ((fun p : Key × List Int => decide (p.1 = k)) ∘ fun p : Key × G => (p.1, packM p.2)) = fun p : Key × G => decide (p.1 = k) := rfl
  rw [e]
  cases e2 : ks.find? (fun p => decide (p.1 = k)) with
  | none =>
    obtain ⟨p, h1, h2⟩ := List.mem_map.mp h
    have := List.find?_eq_none.mp e2 _ h1
    simp [h2] at this
  | some q => rfl
theorem flat_congr {α β : Type} {f g : α → List β} : ∀ {xs : List α}, (∀ x ∈ xs, f x = g x) → xs.flatMap f = xs.flatMap g
  | [], _ => rfl
  | x :: r, h => by
    rw [List.flatMap_cons, List.flatMap_cons, h x List.mem_cons_self, flat_congr fun y hy => h y (List.mem_cons_of_mem _ hy)]
/-- a dict's packed form, by its keys in their order -/
theorem packM_d (ks : List (Key × G)) : packM (.d ks) = 8 :: (nb ks.length 2 ++ (sortK (ks.map (·.1))).flatMap fun k => packS (kV k) ++ packM (lkG ks k)) := by
  rw [packM, packK_keys]
  congr 2
  refine flat_congr fun k hk => ?_
  unfold entP
  rw [itemP_eq ks (sortK_mem.mp hk)]
/-! ### how long -/
def plen : Nat → Nat
  | 0 => 403
  | n + 1 => 3 + 4 * (403 + plen n)
theorem plen_le (n : Nat) : 403 ≤ plen n := by
  cases n with
  | zero => exact Nat.le_refl _
  | succ n => simp only [plen]; omega
theorem packS_len {v : V} (h : okS v) : (packS v).length ≤ 403 := by
  cases v with
  | non => show 1 ≤ 403; decide
  | bl b => show 1 ≤ 403; decide
  | int i =>
    show (if i < 0 then 4 :: nb (-i).toNat 4 else 3 :: nb i.toNat 4 : List Int).length ≤ 403
    split <;> rw [List.length_cons, nb_len] <;> decide
  | str z =>
    show (5 :: (nb z.length 2 ++ (tl z).map fun c => ((c : Nat) : Int))).length ≤ 403
    rw [List.length_cons, List.length_append, nb_len, List.length_map, ← len_tl]
    have := h.1
    omega
  | byt _ => exact h.elim
  | flt _ => exact h.elim
  | ref _ => exact h.elim
  | ty _ => exact h.elim
theorem flat_le {α : Type} {f : α → List Int} {b : Nat} : ∀ {xs : List α}, (∀ x ∈ xs, (f x).length ≤ b) → (xs.flatMap f).length ≤ xs.length * b
  | [], _ => by simp
  | x :: r, h => by
    rw [List.flatMap_cons, List.length_append, List.length_cons, Nat.add_mul]
    have := flat_le fun y hy => h y (List.mem_cons_of_mem _ hy)
    have := h x List.mem_cons_self
    omega
theorem pack_len : ∀ {n : Nat} {g : G}, DOk n g → (packM g).length ≤ plen n
  | n, .s v, h => by
    cases h with
    | s h => rw [packM]; exact Nat.le_trans (packS_len h) (plen_le n)
  | n + 1, .t gs, h => by
    cases h with
    | t l h =>
      rw [packM, List.length_cons, List.length_append, nb_len, packL_map]
      have := flat_le (f := packM) (b := plen n) fun g hg => pack_len (h g hg)
      have : gs.length * plen n ≤ 4 * plen n := Nat.mul_le_mul_right _ l
      simp only [plen]; omega
  | n + 1, .l gs, h => by
    cases h with
    | l l h =>
      rw [packM, List.length_cons, List.length_append, nb_len, packL_map]
      have := flat_le (f := packM) (b := plen n) fun g hg => pack_len (h g hg)
      have : gs.length * plen n ≤ 4 * plen n := Nat.mul_le_mul_right _ l
      simp only [plen]; omega
  | n + 1, .d ks, h => by
    cases h with
    | d l nd k h =>
      rw [packM_d, List.length_cons, List.length_append, nb_len]
      have := flat_le (f := fun k => packS (kV k) ++ packM (lkG ks k)) (b := 403 + plen n) (xs := sortK (ks.map (·.1))) fun x hx => by
        obtain hm := lkG_in (sortK_mem.mp hx)
        rw [List.length_append]
        have h1 : (packS (kV x)).length ≤ 403 := packS_len (k _ hm)
        have h2 : (packM (lkG ks x)).length ≤ plen n := pack_len (h _ hm)
        omega
      rw [sortK_len, List.length_map] at this
      have : ks.length * (403 + plen n) ≤ 4 * (403 + plen n) := Nat.mul_le_mul_right _ l
      simp only [plen]; omega
theorem plen_mono {n m : Nat} (h : n ≤ m) : plen n ≤ plen m := by
  induction h with
  | refl => exact Nat.le_refl _
  | step h ih =>
    refine Nat.le_trans ih ?_
    simp only [plen]
    omega
theorem plen4 : plen 4 ≤ 300000 := by decide
/-! ### data with their dicts in order -/
mutual
def normG : G → G
  | .s v => .s v
  | .t gs => .t (normL gs)
  | .l gs => .l (normL gs)
  | .d ks => .d ((sortK ((normK ks).map (·.1))).map fun k => (k, lkG (normK ks) k))
def normL : List G → List G
  | [] => []
  | g :: gs => normG g :: normL gs
def normK : List (Key × G) → List (Key × G)
  | [] => []
  | (k, g) :: r => (k, normG g) :: normK r
end
theorem normL_map : ∀ gs : List G, normL gs = gs.map normG
  | [] => rfl
  | g :: gs => by rw [normL, normL_map gs]; rfl
theorem normK_map : ∀ ks : List (Key × G), normK ks = ks.map fun p => (p.1, normG p.2)
  | [] => rfl
  | (k, g) :: r => by rw [normK, normK_map r]; rfl
theorem normK_keys (ks : List (Key × G)) : (normK ks).map (·.1) = ks.map (·.1) := by rw [normK_map, List.map_map]; rfl
theorem normK_lk (ks : List (Key × G)) {k : Key} (h : k ∈ ks.map (·.1)) : lkG (normK ks) k = normG (lkG ks k) := by
  unfold lkG
  rw [normK_map, List.find?_map]
  have e : ((fun p : Key × G => decide (p.1 = k)) ∘ fun p : Key × G => (p.1, normG p.2)) = fun p : Key × G => decide (p.1 = k) := rfl
  rw [e]
  cases e2 : ks.find? (fun p => decide (p.1 = k)) with
  | none =>
    obtain ⟨p, h1, h2⟩ := List.mem_map.mp h
    have := List.find?_eq_none.mp e2 _ h1
    simp [h2] at this
  | some q => rfl
theorem normG_d (ks : List (Key × G)) : normG (.d ks) = .d ((sortK (ks.map (·.1))).map fun k => (k, normG (lkG ks k))) := by
  rw [normG, normK_keys]
  congr 1
  refine List.map_congr_left fun k hk => ?_
  rw [normK_lk ks (sortK_mem.mp hk)]
/-- the same data, whatever the order of the dicts -/
inductive GEq : G → G → Prop
  | s (v : V) : GEq (.s v) (.s v)
  | t {gs hs : List G} (l : gs.length = hs.length) (h : ∀ (i : Nat) (g h : G), gs[i]? = some g → hs[i]? = some h → GEq g h) : GEq (.t gs) (.t hs)
  | l {gs hs : List G} (l : gs.length = hs.length) (h : ∀ (i : Nat) (g h : G), gs[i]? = some g → hs[i]? = some h → GEq g h) : GEq (.l gs) (.l hs)
  | d {ks ms : List (Key × G)} (f : Key → G) (l : ks.length = ms.length) (k : ∀ p ∈ ms, (p.1, f p.1) ∈ ks) (h : ∀ p ∈ ms, GEq (f p.1) p.2) : GEq (.d ks) (.d ms)
theorem norm_eq : ∀ {n : Nat} {g : G}, DOk n g → GEq (normG g) g
  | n, .s v, _ => .s v
  | n + 1, .t gs, h => by
    cases h with
    | t l h =>
      rw [normG, normL_map]
      refine .t (by rw [List.length_map]) fun i g g' e1 e2 => ?_
      rw [List.getElem?_map, e2] at e1
      cases e1
      exact norm_eq (h g' (List.mem_of_getElem? e2))
  | n + 1, .l gs, h => by
    cases h with
    | l l h =>
      rw [normG, normL_map]
      refine .l (by rw [List.length_map]) fun i g g' e1 e2 => ?_
      rw [List.getElem?_map, e2] at e1
      cases e1
      exact norm_eq (h g' (List.mem_of_getElem? e2))
  | n + 1, .d ks, h => by
    cases h with
    | d l nd k h =>
      rw [normG_d]
      refine .d (fun k => normG (lkG ks k)) (by rw [List.length_map, sortK_len, List.length_map]) (fun p hp => ?_) (fun p hp => ?_)
      · exact List.mem_map.mpr ⟨p.1, sortK_mem.mpr (List.mem_map.mpr ⟨p, hp, rfl⟩), rfl⟩
      · have e : lkG ks p.1 = p.2 := lkG_mem nd (by obtain ⟨a, b⟩ := p; exact hp)
        rw [e]
        exact norm_eq (h p hp)
theorem eq_refl : ∀ {n : Nat} {g : G}, DOk n g → GEq g g
  | n, .s v, _ => .s v
  | n + 1, .t gs, h => by
    cases h with
    | t l h => exact .t rfl fun i g g' e1 e2 => by rw [e1] at e2; cases e2; exact eq_refl (h g (List.mem_of_getElem? e1))
  | n + 1, .l gs, h => by
    cases h with
    | l l h => exact .l rfl fun i g g' e1 e2 => by rw [e1] at e2; cases e2; exact eq_refl (h g (List.mem_of_getElem? e1))
  | n + 1, .d ks, h => by
    cases h with
    | d l nd k h =>
      refine .d (lkG ks) rfl (fun p hp => lkG_in (List.mem_map.mpr ⟨p, hp, rfl⟩)) (fun p hp => ?_)
      have e : lkG ks p.1 = p.2 := lkG_mem nd (by obtain ⟨a, b⟩ := p; exact hp)
      rw [e]
      exact eq_refl (h p hp)
theorem DOk.dep : ∀ {n : Nat} {g : G}, DOk n g → g.dep ≤ n
  | n, .s v, _ => Nat.zero_le _
  | n + 1, .t gs, h => by
    cases h with
    | t l h =>
      have := depL_le (gs := gs) (n := n) fun g hg => DOk.dep (h g hg)
      simp only [G.dep]; omega
  | n + 1, .l gs, h => by
    cases h with
    | l l h =>
      have := depL_le (gs := gs) (n := n) fun g hg => DOk.dep (h g hg)
      simp only [G.dep]; omega
  | n + 1, .d ks, h => by
    cases h with
    | d l nd k h =>
      have := depK_le (gs := ks) (n := n) fun p hp => DOk.dep (h p hp)
      simp only [G.dep]; omega
end Lt
namespace Lt
open PySem PySem.Spec PyProof.Rows L2 TL
/-! ### text * int -/
theorem op_mul_str {X : Cx} : OpR X (binaryOp .Mult) (fun x y H Q => ∃ (z : Str) (n : Int), x = .str z ∧ y = .int n ∧ MulOk z n ∧ Q (.str (Txt.mul z n)) H) := by
  intro pins s σ H x y v u Q I rx ry h
  obtain ⟨z, n, rfl, rfl, hk, q⟩ := h
  obtain ⟨t, rfl⟩ := rx
  obtain ⟨t', rfl⟩ := ry
  exact SB.mul hk (fun t' k => ⟨.str (Txt.mul z n), H, I.tok _, ⟨_, rfl⟩, q⟩)
theorem mul_ok {z : Str} {n : Int} (h0 : 0 ≤ n) (h1 : n ≤ 100) (hz : z.length ≤ 1000) : MulOk z n := by
  refine ⟨?_, fun h2 _ h3 => ?_, fun h2 _ => ?_⟩
  · rw [decide_eq_false (by omega), decide_eq_false (by omega)]; rfl
  · have e : (92233720368547758 : Int) ≤ (2 ^ 63 - 1) / n := by
      rw [Int.le_ediv_iff_mul_le (by omega)]
      omega
    omega
  · have : z.length * n.toNat ≤ 1000 * 100 := Nat.mul_le_mul hz (by omega)
    show decide (z.length * n.toNat > sizeLine) = false
    refine decide_eq_false ?_
    have : sizeLine = 16777216 := rfl
    omega
theorem fold_app : ∀ (k : Nat) (a acc : Array Nat), ((List.replicate k a).foldl (· ++ ·) acc).toList = acc.toList ++ (List.replicate k a.toList).flatten
  | 0, a, acc => by simp
  | k + 1, a, acc => by
    rw [List.replicate_succ, List.foldl_cons, fold_app k a (acc ++ a), List.replicate_succ, List.flatten_cons, Array.toList_append, List.append_assoc]
theorem mul_tl {z : Str} {n : Int} (c : Nat) (h : c ∈ tl (Txt.mul z n)) : c ∈ tl z := by
  unfold Txt.mul at h
  split at h
  · cases h
  · split at h
    · exact h
    · have e : tl ⟨(List.replicate n.toNat z.cps).foldl (· ++ ·) #[]⟩ = (List.replicate n.toNat (tl z)).flatten := by
        show ((List.replicate n.toNat z.cps).foldl (· ++ ·) #[]).toList = _
        rw [fold_app]; rfl
      rw [e] at h
      obtain ⟨l, h1, h2⟩ := List.mem_flatten.mp h
      rw [List.eq_of_mem_replicate h1] at h2
      exact h2
theorem mul_len {z : Str} {n : Int} (h0 : 0 ≤ n) : (Txt.mul z n).length ≤ z.length * max n.toNat 1 := by
  unfold Txt.mul
  split
  · exact Nat.zero_le _
  · split
    · have : 1 ≤ max n.toNat 1 := Nat.le_max_right _ _
      calc z.length = z.length * 1 := (Nat.mul_one _).symm
        _ ≤ _ := Nat.mul_le_mul_left _ this
    · have e : tl ⟨(List.replicate n.toNat z.cps).foldl (· ++ ·) #[]⟩ = (List.replicate n.toNat (tl z)).flatten := by
        show ((List.replicate n.toNat z.cps).foldl (· ++ ·) #[]).toList = _
        rw [fold_app]; rfl
      rw [len_tl, e, List.length_flatten, List.map_replicate, List.sum_replicate_nat, ← len_tl, Nat.mul_comm]
      exact Nat.mul_le_mul_left _ (Nat.le_max_left _ _)
/-! ### promises -/
/-- a new list of these ints -/
def NewI (H : Hp) (xs : List Int) (Q : VK) : Prop := ∀ p H', H' p = some (.lst (xs.map V.int)) → Same H H' → H p = none → Q (.ref p) H'
theorem NewI.mono {H H1 : Hp} {xs : List Int} {Q : VK} (h : NewI H xs Q) (s : Same H H1) : NewI H1 xs Q := fun p H' e s' n => h p H' e (s.trans s') (s.free n)
def spNB : Sp := fun vs H Q _ => ∃ n k : Nat, vs = [.int n, .int k] ∧ k ≤ 10 ∧ NewI H (nb n k) Q
def spPNum : Sp := fun vs H Q _ => ∃ i : Int, vs = [.int i] ∧ NewI H (packS (.int i)) Q
def spPTxt : Sp := fun vs H Q _ => ∃ z : Str, vs = [.str z] ∧ okS (.str z) ∧ NewI H (packS (.str z)) Q
def spCodes : Sp := fun vs H Q _ => ∃ z : Str, vs = [.str z] ∧ okS (.str z) ∧ NewI H ((tl z).map fun c => ((c : Nat) : Int)) Q
def spPack : Nat → Sp
  | 0 => fun _ _ _ _ => False
  | n + 1 => fun vs H Q _ => ∃ v g D, vs = [v] ∧ Gp H v g D ∧ DOk n g ∧ n ≤ 4 ∧ NewI H (packM g) Q
def spPItems : Nat → Sp
  | 0 => fun _ _ _ _ => False
  | n + 1 => fun vs H Q _ => ∃ (f : Int) (a : Addr) (xs : List V) (gs : List G) (D : List Addr), vs = [.int f, .ref a] ∧ (H a = some (.lst xs) ∨ H a = some (.tup xs)) ∧ GpL H xs gs D ∧ gs.length ≤ 4 ∧ (∀ g ∈ gs, DOk n g) ∧ n < 4 ∧ NewI H (f :: (nb gs.length 2 ++ packL gs)) Q
def spPDict : Nat → Sp
  | 0 => fun _ _ _ _ => False
  | n + 1 => fun vs H Q _ => ∃ (a : Addr) (kvs : List (Key × V)) (ks : List (Key × G)) (D : List Addr), vs = [.ref a] ∧ H a = some (.dK kvs) ∧ GpK H kvs ks D ∧ a ∉ D ∧ ks.length ≤ 4 ∧ (ks.map (·.1)).Nodup ∧ (∀ p ∈ ks, okS (kV p.1)) ∧ (∀ p ∈ ks, DOk n p.2) ∧ n < 4 ∧ NewI H (packM (.d ks)) Q
def spDraws : Nat → Sp
  | 0 => fun _ _ _ _ => False
  | n + 1 => fun vs H Q _ => ∃ (t c : Addr) (cs : List Int), vs = [.ref t, .int (n : Nat)] ∧ TapeAt H t c cs ∧ n ≤ 4 ∧ ∀ v g D H', Gp H' v g D → DOk n g → (∀ a ∈ D, H a = none) → TapeAt H' t c cs → SameX t H H' → Q v H'
/-- reading: data g stand packed from at on -/
def At (bs : List Int) (at_ : Nat) (ps : List Int) : Prop := ∃ rest, bs.drop at_ = ps ++ rest
def spRNum : Sp := fun vs H Q _ => ∃ (B : Addr) (bs : List Int) (a k : Nat), vs = [.ref B, .int a, .int k] ∧ H B = some (.lst (bs.map V.int)) ∧ bs.length ≤ 1000000 ∧ a + k ≤ bs.length ∧ k ≤ 10 ∧ ∀ H', Same H H' → Q (.int (valB ((bs.drop a).take k))) H'
def spBNum : Sp := fun vs H Q _ => ∃ (B : Addr) (bs : List Int), vs = [.ref B] ∧ H B = some (.lst (bs.map V.int)) ∧ bs.length ≤ 10 ∧ Q (.int (valB bs)) H
def Pair (H : Hp) (Q : VK) (R : V → Hp → Prop) (e : Nat) : Prop := ∀ v H' T, R v H' → H' T = some (.tup [v, .int e]) → Same H H' → Q (.ref T) H'
def spRead : Nat → Sp
  | 0 => fun _ _ _ _ => False
  | n + 1 => fun vs H Q _ => ∃ (B : Addr) (bs : List Int) (a : Nat) (g : G), vs = [.ref B, .int a] ∧ H B = some (.lst (bs.map V.int)) ∧ bs.length ≤ 1000000 ∧ DOk n g ∧ n ≤ 4 ∧ At bs a (packM g) ∧
    ∀ v D H' T, Gp H' v (normG g) D → (∀ b ∈ D, H b = none) → H' T = some (.tup [v, .int (a + (packM g).length : Nat)]) → Same H H' → Q (.ref T) H'
/-- the items of a list or tuple, as they are read -/
def spRItems : Nat → Sp
  | 0 => fun _ _ _ _ => False
  | n + 1 => fun vs H Q _ => ∃ (B : Addr) (bs : List Int) (a : Nat) (f : Int) (gs : List G), vs = [.ref B, .int a] ∧ H B = some (.lst (bs.map V.int)) ∧ bs.length ≤ 1000000 ∧ (∀ g ∈ gs, DOk n g) ∧ gs.length ≤ 4 ∧ n < 4 ∧ At bs a (f :: (nb gs.length 2 ++ packL gs)) ∧
    ∀ L xs D H' T, H' L = some (.lst xs) → GpL H' xs (normL gs) D → (∀ b ∈ D, H b = none) → L ∉ D → H L = none → H' T = some (.tup [.ref L, .int (a + (3 + (packL gs).length) : Nat)]) → Same H H' → Q (.ref T) H'
def spRDict : Nat → Sp
  | 0 => fun _ _ _ _ => False
  | n + 1 => fun vs H Q _ => ∃ (B : Addr) (bs : List Int) (a : Nat) (ks : List (Key × G)), vs = [.ref B, .int a] ∧ H B = some (.lst (bs.map V.int)) ∧ bs.length ≤ 1000000 ∧ DOk (n + 1) (.d ks) ∧ n < 4 ∧ At bs a (packM (.d ks)) ∧
    ∀ v D H' T, Gp H' v (normG (.d ks)) D → (∀ b ∈ D, H b = none) → H' T = some (.tup [v, .int (a + (packM (.d ks)).length : Nat)]) → Same H H' → Q (.ref T) H'
def spRNeg : Sp := fun vs H Q _ => ∃ (B : Addr) (bs : List Int) (a n : Nat), vs = [.ref B, .int a] ∧ H B = some (.lst (bs.map V.int)) ∧ bs.length ≤ 1000000 ∧ At bs a (4 :: nb n 4) ∧ 0 < n ∧ n ≤ 4294967295 ∧ ∀ H', Same H H' → Q (.int (-(n : Int))) H'
def spRTxt : Sp := fun vs H Q _ => ∃ (B : Addr) (bs : List Int) (a : Nat) (z : Str), vs = [.ref B, .int a] ∧ H B = some (.lst (bs.map V.int)) ∧ bs.length ≤ 1000000 ∧ okS (.str z) ∧ At bs a (packS (.str z)) ∧ ∀ H' T, H' T = some (.tup [.str z, .int (a + (packS (.str z)).length : Nat)]) → Same H H' → Q (.ref T) H'
def spFollow : Sp := fun vs H Q _ => ∃ (k : Key) (b : V), vs = [kV k, b] ∧ (b = .non ∨ ∃ k', b = kV k' ∧ kLt k' k = true) ∧ ∀ H', Same H H' → Q (.bl true) H'
end Lt
namespace Lt
open PySem PySem.Spec PyProof.Rows L2 TL
/-- the keys of one sort, in their order -/
def intK (ks : List Key) : List Key := ks.filter fun k => match k with | .inl _ => true | .inr _ => false
def strK (ks : List Key) : List Key := ks.filter fun k => match k with | .inl _ => false | .inr _ => true
theorem split_perm : ∀ ks : List Key, (intK ks ++ strK ks).Perm ks
  | [] => .nil
  | .inl i :: r => by
    show (Sum.inl i :: (intK r ++ strK r)).Perm _
    exact (split_perm r).cons _
  | .inr x :: r => by
    show (intK r ++ Sum.inr x :: strK r).Perm _
    exact List.perm_middle.trans ((split_perm r).cons _)
theorem rising_pair : ∀ (r : List Str) (p : Str), risingS p r = true → (p :: r).Pairwise fun a b => decide (tl b < tl a) = false
  | [], p, _ => List.pairwise_singleton _ _
  | x :: r, p, h => by
    simp only [risingS, Bool.and_eq_true, Bool.not_eq_true', ltCps_eq] at h
    have ih := rising_pair r x h.2
    refine List.pairwise_cons.mpr ⟨fun y hy => ?_, ih⟩
    have h1 : decide (tl x < tl p) = false := h.1
    rcases List.mem_cons.mp hy with rfl | hy
    · exact h1
    · have h2 := (List.pairwise_cons.mp ih).1 y hy
      have a1 := List.not_lt.mp (of_decide_eq_false h1)
      have a2 := List.not_lt.mp (of_decide_eq_false h2)
      exact decide_eq_false (List.not_lt.mpr (List.le_trans a1 a2))
theorem sortedS_pair {xs : List Str} (h : sortedS xs = true) : xs.Pairwise fun a b => decide (tl b < tl a) = false := by
  cases xs with
  | nil => exact .nil
  | cons x r => exact rising_pair r x h
theorem kinds_sorted {ks : List Key} {ns : List Int} {xs : List Str} (h1 : (ns.map (Sum.inl : Int → Key)).Perm (intK ks)) (h2 : ns.Pairwise (· ≤ ·)) (h3 : (xs.map (Sum.inr : Str → Key)).Perm (strK ks)) (h4 : sortedS xs = true) : ns.map Sum.inl ++ xs.map Sum.inr = sortK ks := by
  refine sortK_eq ((h1.append h3).trans (split_perm ks)) ?_
  unfold SortedK
  refine List.pairwise_append.mpr ⟨?_, ?_, ?_⟩
  · refine List.pairwise_map.mpr (h2.imp fun {a b} h => ?_)
    exact decide_eq_false (by omega)
  · exact List.pairwise_map.mpr (sortedS_pair h4)
  · intro a ha b hb
    obtain ⟨i, _, rfl⟩ := List.mem_map.mp ha
    obtain ⟨x, _, rfl⟩ := List.mem_map.mp hb
    rfl
/-- the keys of a dict that are texts, or are not -/
theorem keys_ints : ∀ ks : List Key, ∃ ns : List Int, intK ks = ns.map Sum.inl
  | [] => ⟨[], rfl⟩
  | .inl i :: r => by
    obtain ⟨ns, e⟩ := keys_ints r
    refine ⟨i :: ns, ?_⟩
    show Sum.inl i :: intK r = _
    rw [e]; rfl
  | .inr x :: r => keys_ints r
theorem keys_strs : ∀ ks : List Key, ∃ xs : List Str, strK ks = xs.map Sum.inr
  | [] => ⟨[], rfl⟩
  | .inl i :: r => keys_strs r
  | .inr x :: r => by
    obtain ⟨xs, e⟩ := keys_strs r
    refine ⟨x :: xs, ?_⟩
    show Sum.inr x :: strK r = _
    rw [e]; rfl
theorem intK_take_int {ks : List Key} {i : Nat} {n : Int} (h : ks[i]? = some (.inl n)) : intK (ks.take (i + 1)) = intK (ks.take i) ++ [.inl n] ∧ strK (ks.take (i + 1)) = strK (ks.take i) := by
  rw [List.take_add_one, h]
  unfold intK strK
  rw [List.filter_append, List.filter_append]
  simp
theorem intK_take_str {ks : List Key} {i : Nat} {x : Str} (h : ks[i]? = some (.inr x)) : intK (ks.take (i + 1)) = intK (ks.take i) ∧ strK (ks.take (i + 1)) = strK (ks.take i) ++ [.inr x] := by
  rw [List.take_add_one, h]
  unfold intK strK
  rw [List.filter_append, List.filter_append]
  simp
theorem intK_len (ks : List Key) : (intK ks).length ≤ ks.length := List.length_filter_le _ _
theorem strK_len (ks : List Key) : (strK ks).length ≤ ks.length := List.length_filter_le _ _
theorem small6 {n : Nat} (h : n ≤ 1000000) : n ≤ sizeLine := Nat.le_trans h (by decide)
theorem small6' {n : Nat} (h : n ≤ 1000000) : n < sizeLine := Nat.lt_of_le_of_lt h (by decide)
theorem plen_6 {n : Nat} (h : n ≤ 4) : plen n ≤ 300000 := Nat.le_trans (plen_mono h) plen4
theorem packL_len {n : Nat} {gs : List G} (h : ∀ g ∈ gs, DOk n g) : (packL gs).length ≤ gs.length * plen n := by
  rw [packL_map]
  exact flat_le fun g hg => pack_len (h g hg)
theorem packL_take {gs : List G} {i : Nat} {g : G} (h : gs[i]? = some g) : packL (gs.take (i + 1)) = packL (gs.take i) ++ packM g := by
  rw [packL_map, packL_map, List.take_add_one, h, List.flatMap_append]
  simp
theorem plen_3 {n : Nat} (h : n < 4) : plen n ≤ 60000 := Nat.le_trans (plen_mono (Nat.le_of_lt_succ h)) (by decide)
theorem GpK.lk {H : Hp} {kvs : List (Key × V)} {ks : List (Key × G)} {D : List Addr} (r : GpK H kvs ks D) (nd : (ks.map (·.1)).Nodup) {k : Key} (h : k ∈ ks.map (·.1)) : ∃ v E, valV kvs k = some v ∧ Gp H v (lkG ks k) E ∧ ∀ a ∈ E, a ∈ D := by
  have hk : k ∈ kvs.map (·.1) := by rw [r.keys]; exact h
  obtain ⟨p, h1, h2⟩ := List.mem_map.mp hk
  obtain ⟨i, hi, ei⟩ := List.getElem_of_mem h1
  obtain ⟨k', v⟩ := p
  cases h2
  have e : kvs[i]? = some (k', v) := by rw [List.getElem?_eq_getElem hi, ei]
  obtain ⟨g, E, e1, p1, i1⟩ := r.get e
  rw [lkG_mem nd (List.mem_of_getElem? e1)]
  exact ⟨v, E, valV_at (by rw [r.keys]; exact nd) e, p1, i1⟩
theorem unlock_same {H H1 : Hp} {a : Addr} {od : Obj} {u : HO} (ha : H a = some u) (s : Same (upd H a (.frz od u)) H1) : Same H (upd H1 a u) := fun b o e => by
  by_cases eb : b = a
  · subst eb; rw [ha] at e; cases e; exact upd_same
  · rw [upd_ne eb]; exact s b o (by rw [upd_ne eb]; exact e)
theorem lock_free {H H1 : Hp} {a b : Addr} {od : Obj} {u : HO} (s : Same (upd H a (.frz od u)) H1) (h : H1 b = none) : H b = none := by
  have := s.free h
  by_cases eb : b = a
  · subst eb; rw [upd_same] at this; cases this
  · rw [upd_ne eb] at this; exact this
def entD (ks : List (Key × G)) (k : Key) : List Int := packS (kV k) ++ packM (lkG ks k)
theorem packM_dD (ks : List (Key × G)) : packM (.d ks) = 8 :: (nb ks.length 2 ++ (sortK (ks.map (·.1))).flatMap (entD ks)) := packM_d ks
theorem ent_take {ks : List (Key × G)} {xs : List Key} {i : Nat} {k : Key} (h : xs[i]? = some k) : (xs.take (i + 1)).flatMap (entD ks) = (xs.take i).flatMap (entD ks) ++ entD ks k := by
  rw [List.take_add_one, h, List.flatMap_append]
  simp
theorem ents_len {n : Nat} {ks : List (Key × G)} (ok : ∀ p ∈ ks, okS (kV p.1)) (h : ∀ p ∈ ks, DOk n p.2) {xs : List Key} (hx : ∀ k ∈ xs, k ∈ ks.map (·.1)) : (xs.flatMap (entD ks)).length ≤ xs.length * (403 + plen n) := flat_le fun k hk => by
  have hm := lkG_in (hx k hk)
  unfold entD
  rw [List.length_append]
  have h1 : (packS (kV k)).length ≤ 403 := packS_len (ok _ hm)
  have h2 : (packM (lkG ks k)).length ≤ plen n := pack_len (h _ hm)
  omega
theorem kV_int (ns : List Int) : (ns.map (Sum.inl : Int → Key)).map kV = ns.map V.int := by rw [List.map_map]; rfl
theorem kV_str (xs : List Str) : (xs.map (Sum.inr : Str → Key)).map kV = xs.map V.str := by rw [List.map_map]; rfl
/-- the keys, sorted by kind and joined -/
theorem keys_join {ks : List Key} {ns ns' : List Int} {xs xs' : List Str} (e1 : intK ks = ns.map Sum.inl) (e2 : strK ks = xs.map Sum.inr) (p1 : ns'.Perm ns) (p2 : ns'.Pairwise (· ≤ ·)) (p3 : xs'.Perm xs) (p4 : sortedS xs' = true) : ns'.map V.int ++ xs'.map V.str = (sortK ks).map kV := by
  rw [← kinds_sorted (ks := ks) (by rw [e1]; exact p1.map _) p2 (by rw [e2]; exact p3.map _) p4, List.map_append, kV_int, kV_str]
/-! ### the law's own bytes -/
def chars94 : Str := (" !\"#$&'()*+,-./0123456789:;<=>?@ABCDEFGHIJKLMNOPQRSTUVWXYZ[\\]^" : Str) ++ ("_`abcdefghijklmnopqrstuvwxyz{|}~" : Str)
def codeIx (c : Nat) : Bool := match Builtin.Str.occurrences chars94 (one c) 0 chars94.length 1 with
  | i :: _ => decide ((if i < 5 then i + 32 else i + 33) = c)
  | [] => false
theorem codes_ok : (List.range 127).all (fun c => !decide (chOk c) || codeIx c) = true := by decide +kernel
theorem code_ix {c : Nat} (h : chOk c) : ∃ i rest, Builtin.Str.occurrences chars94 (one c) 0 chars94.length 1 = i :: rest ∧ (if i < 5 then i + 32 else i + 33) = c := by
  have k := List.all_eq_true.mp codes_ok c (List.mem_range.mpr (by have := h.2.1; omega))
  rw [decide_eq_true h] at k
  have k' : codeIx c = true := k
  unfold codeIx at k'
  split at k'
  · rename_i i r e
    exact ⟨i, r, e, of_decide_eq_true k'⟩
  · cases k'
def spLPack : Nat → Sp := spPack
theorem two_or {P Q : Prop} (h : P) : P ∨ Q := .inl h
theorem call_either {X : Cx} {f : Value} {r1 r2 : List V → Hp → VK → Prop} (h1 : CallR X f r1) (h2 : CallR X f r2) : CallR X f (fun xs H Q => r1 xs H Q ∨ r2 xs H Q) := fun pins s σ H xs us Q I r h => by
  rcases h with h | h
  · exact h1 pins s σ H xs us Q I r h
  · exact h2 pins s σ H xs us Q I r h
/-! ### a dict of data gets an entry -/
def putG (ks : List (Key × G)) (k : Key) (g : G) : List (Key × G) := if (ks.any fun p => decide (p.1 = k)) = true then ks.map (fun p => if p.1 = k then (p.1, g) else p) else ks ++ [(k, g)]
theorem GpK.map_put {H : Hp} {k : Key} {v : V} {g : G} {E : List Addr} (h : Gp H v g E) : ∀ {kvs : List (Key × V)} {ks : List (Key × G)} {D : List Addr}, GpK H kvs ks D →
    ∃ D', GpK H (kvs.map fun kv => if kv.1 = k then (kv.1, v) else kv) (ks.map fun p => if p.1 = k then (p.1, g) else p) D' ∧ ∀ a ∈ D', a ∈ D ∨ a ∈ E
  | _, _, _, .nil => ⟨[], .nil, fun a ha => by cases ha⟩
  | (k', v') :: _, (_, g') :: _, _, .cons (D := D1) hp r => by
    obtain ⟨D', r', hD⟩ := GpK.map_put h r
    rw [List.map_cons, List.map_cons]
    by_cases e : k' = k
    · rw [if_pos e, if_pos e]
      refine ⟨E ++ D', .cons h r', fun a ha => ?_⟩
      rcases List.mem_append.mp ha with ha | ha
      · exact .inr ha
      · rcases hD a ha with q | q
        · exact .inl (List.mem_append.mpr (.inr q))
        · exact .inr q
    · rw [if_neg e, if_neg e]
      refine ⟨D1 ++ D', .cons hp r', fun a ha => ?_⟩
      rcases List.mem_append.mp ha with ha | ha
      · exact .inl (List.mem_append.mpr (.inl ha))
      · rcases hD a ha with q | q
        · exact .inl (List.mem_append.mpr (.inr q))
        · exact .inr q
theorem GpK.put {H : Hp} {k : Key} {v : V} {g : G} {D E : List Addr} {kvs : List (Key × V)} {ks : List (Key × G)} (r : GpK H kvs ks D) (h : Gp H v g E) : ∃ D', GpK H (putK kvs k v) (putG ks k g) D' ∧ ∀ a ∈ D', a ∈ D ∨ a ∈ E := by
  have e : (kvs.any fun kv => decide (kv.1 = k)) = (ks.any fun p => decide (p.1 = k)) := by
    have a1 : (kvs.any fun kv => decide (kv.1 = k)) = (kvs.map (·.1)).any (fun x => decide (x = k)) := by rw [List.any_map]; rfl
    have a2 : (ks.any fun p => decide (p.1 = k)) = (ks.map (·.1)).any (fun x => decide (x = k)) := by rw [List.any_map]; rfl
    rw [a1, a2, r.keys]
  unfold putK putG
  rw [e]
  split
  · exact r.map_put h
  · exact ⟨D ++ E, r.snoc h, fun a ha => List.mem_append.mp ha⟩
theorem putG_keys (ks : List (Key × G)) (k : Key) (g : G) : (putG ks k g).map (·.1) = ks.map (·.1) ∨ ((putG ks k g).map (·.1) = ks.map (·.1) ++ [k] ∧ k ∉ ks.map (·.1)) := by
  unfold putG
  split
  · refine .inl ?_
    rw [List.map_map]
    refine List.map_congr_left fun p _ => ?_
    show (if p.1 = k then (p.1, g) else p).1 = p.1
    split <;> rfl
  · rename_i h
    refine .inr ⟨by rw [List.map_append]; rfl, fun hm => h ?_⟩
    obtain ⟨p, h1, h2⟩ := List.mem_map.mp hm
    exact List.any_eq_true.mpr ⟨p, h1, decide_eq_true h2⟩
theorem putG_nd {ks : List (Key × G)} {k : Key} {g : G} (nd : (ks.map (·.1)).Nodup) : ((putG ks k g).map (·.1)).Nodup := by
  rcases putG_keys ks k g with e | ⟨e, h⟩ <;> rw [e]
  · exact nd
  · refine List.nodup_append.mpr ⟨nd, by simp, fun x hx y hy => ?_⟩
    have : y = k := by simpa using hy
    subst this
    rintro rfl
    exact h hx
theorem putG_len {ks : List (Key × G)} {k : Key} {g : G} : (putG ks k g).length ≤ ks.length + 1 := by
  unfold putG
  split
  · rw [List.length_map]; omega
  · rw [List.length_append]; simp
theorem putG_mem {ks : List (Key × G)} {k : Key} {g : G} {p : Key × G} (h : p ∈ putG ks k g) : (p.1 = k ∧ p.2 = g) ∨ p ∈ ks := by
  unfold putG at h
  split at h
  · obtain ⟨q, h1, h2⟩ := List.mem_map.mp h
    split at h2
    · rename_i e
      rw [← h2]; exact .inl ⟨e, rfl⟩
    · rw [← h2]; exact .inr h1
  · rcases List.mem_append.mp h with h | h
    · exact .inr h
    · rw [List.mem_singleton.mp h]; exact .inl ⟨rfl, rfl⟩
theorem putK_len {kvs : List (Key × V)} {k : Key} {v : V} : (putK kvs k v).length ≤ kvs.length + 1 := by
  unfold putK
  split
  · rw [List.length_map]; omega
  · rw [List.length_append]; simp
/-! ### bytes that stand at a place -/
theorem At.head {bs : List Int} {a : Nat} {x : Int} {ps : List Int} (h : At bs a (x :: ps)) : bs[a]? = some x ∧ a < bs.length := by
  obtain ⟨rest, e⟩ := h
  have e1 : (bs.drop a)[0]? = some x := by rw [e]; rfl
  rw [List.getElem?_drop, Nat.add_zero] at e1
  exact ⟨e1, (List.getElem?_eq_some_iff.mp e1).1⟩
theorem At.part {bs : List Int} {a : Nat} {ps qs rs : List Int} (h : At bs a (ps ++ (qs ++ rs))) : At bs (a + ps.length) qs := by
  obtain ⟨rest, e⟩ := h
  refine ⟨rs ++ rest, ?_⟩
  rw [← List.drop_drop, e]
  simp [List.append_assoc]
theorem At.back {bs : List Int} {a : Nat} {ps qs : List Int} (h : At bs a (ps ++ qs)) : At bs (a + ps.length) qs := by
  have := At.part (rs := []) (by rw [List.append_nil]; exact h)
  exact this
theorem At.front {bs : List Int} {a : Nat} {ps qs : List Int} (h : At bs a (ps ++ qs)) : At bs a ps := by
  obtain ⟨rest, e⟩ := h
  exact ⟨qs ++ rest, by rw [e, List.append_assoc]⟩
theorem At.len {bs : List Int} {a : Nat} {ps : List Int} (h : At bs a ps) (hp : ps ≠ []) : a + ps.length ≤ bs.length := by
  obtain ⟨rest, e⟩ := h
  have := congrArg List.length e
  rw [List.length_drop, List.length_append] at this
  have : 0 < ps.length := List.length_pos_iff.mpr hp
  omega
theorem At.take {bs : List Int} {a : Nat} {ps : List Int} (h : At bs a ps) : (bs.drop a).take ps.length = ps := by
  obtain ⟨rest, e⟩ := h
  rw [e, List.take_append_of_le_length (Nat.le_refl _), List.take_length]
theorem cut_mid (xs : List V) (a k : Nat) (h : a + k ≤ xs.length) : cutV xs (some (a : Int)) (some ((a : Int) + (k : Int))) = (xs.drop a).take k := by
  have e : (a : Int) + (k : Int) = ((a + k : Nat) : Int) := by omega
  unfold cutV
  rw [e, HT.sIx_nat, HT.sIx_nat, Nat.min_eq_left (by omega), Nat.min_eq_left (by omega)]
  congr 1
  omega
theorem nb4 {bs : List Int} {a n : Nat} {rest : List Int} {x : Int} {k : Nat} (h : At bs a (x :: (nb n k ++ rest))) (hn : n < 256 ^ k) (hk : 0 < k) : a + 1 + k ≤ bs.length ∧ valB ((bs.drop (a + 1)).take k) = n := by
  have h1 : At bs (a + [x].length) (nb n k) := At.part (ps := [x]) (qs := nb n k) (rs := rest) h
  have h2 := h1.len (by intro z; have := congrArg List.length z; rw [nb_len] at this; simp at this; omega)
  rw [nb_len] at h2
  have h3 := h1.take
  rw [nb_len] at h3
  exact ⟨h2, by rw [show a + 1 = a + [x].length from rfl, h3, valB_nb k n hn]⟩
theorem kLt_of {ks : List Key} (nd : ks.Nodup) {i : Nat} {a b : Key} (ha : (sortK ks)[i]? = some a) (hb : (sortK ks)[i + 1]? = some b) : kLt a b = true := by
  have s := sortK_srt ks
  have hi := (List.getElem?_eq_some_iff.mp ha).1
  have hj := (List.getElem?_eq_some_iff.mp hb).1
  have e := List.pairwise_iff_getElem.mp s i (i + 1) hi hj (by omega)
  have ea : (sortK ks)[i] = a := (List.getElem?_eq_some_iff.mp ha).2
  have eb : (sortK ks)[i + 1] = b := (List.getElem?_eq_some_iff.mp hb).2
  rw [ea, eb] at e
  cases h : kLt a b with
  | true => rfl
  | false =>
    have e1 : kLe a b = true := by unfold kLe; rw [e]; rfl
    have e2 : kLe b a = true := by unfold kLe; rw [h]; rfl
    have := kLe_anti a b e1 e2
    subst this
    have := nd_ix (sortK_nd nd) ha hb
    omega
def charS : Str := " !\"#$ &'()*+,-./0123456789:;<=>?@ABCDEFGHIJKLMNOPQRSTUVWXYZ[\\]^_`abcdefghijklmnopqrstuvwxyz{|}~"
theorem charS_ok : (List.range 127).all (fun c => !decide (chOk c) || decide (charS.cps.toList[c - 32]? = some c)) = true := by decide +kernel
theorem charS_at {c : Nat} (h : chOk c) : atI charS.cps.toList ((c : Int) - 32) = some c := by
  have k := List.all_eq_true.mp charS_ok c (List.mem_range.mpr (by have := h.2.1; omega))
  rw [decide_eq_true h] at k
  have k' : decide (charS.cps.toList[c - 32]? = some c) = true := k
  have e : (c : Int) - 32 = ((c - 32 : Nat) : Int) := by have := h.1; omega
  rw [e]
  exact atI_nat (of_decide_eq_true k')
theorem norm_s {H : Hp} {v x : V} {D : List Addr} (h : Gp H v (normG (.s x)) D) : v = x ∧ D = [] := by
  rw [normG] at h
  cases h; exact ⟨rfl, rfl⟩
theorem ps_no0 {X : Cx} {st : Stmt} : PS X st (fun _ _ _ => False) := ⟨fun _ _ _ _ _ _ h => h.elim⟩
theorem tl_inj {a b : Str} (h : tl a = tl b) : a = b := by
  cases a; cases b
  congr
  exact Array.toList_inj.mp h
def spUnpack : Sp := fun vs H Q _ => ∃ (B : Addr) (g : G), vs = [.ref B] ∧ H B = some (.lst ((packM g).map V.int)) ∧ DOk 4 g ∧ ∀ v D H', Gp H' v (normG g) D → (∀ b ∈ D, H b = none) → Same H H' → Q v H'
theorem packL_at {gs : List G} {i : Nat} {g : G} (h : gs[i]? = some g) : packL gs = packL (gs.take i) ++ (packM g ++ packL (gs.drop (i + 1))) := by
  obtain ⟨hi, e⟩ := List.getElem?_eq_some_iff.mp h
  have e2 : gs = gs.take i ++ (g :: gs.drop (i + 1)) := by rw [← e, List.getElem_cons_drop, List.take_append_drop]
  have e3 := congrArg packL e2
  rw [e3, packL_map (gs.take i ++ (g :: gs.drop (i + 1))), packL_map (gs.take i), packL_map (gs.drop (i + 1)), List.flatMap_append, List.flatMap_cons]
theorem ent_at {ks : List (Key × G)} {xs : List Key} {i : Nat} {k : Key} (h : xs[i]? = some k) : xs.flatMap (entD ks) = (xs.take i).flatMap (entD ks) ++ (packS (kV k) ++ (packM (lkG ks k) ++ (xs.drop (i + 1)).flatMap (entD ks))) := by
  obtain ⟨hi, e⟩ := List.getElem?_eq_some_iff.mp h
  have e2 : xs = xs.take i ++ (k :: xs.drop (i + 1)) := by rw [← e, List.getElem_cons_drop, List.take_append_drop]
  have e3 := congrArg (List.flatMap (entD ks)) e2
  rw [e3, List.flatMap_append, List.flatMap_cons]
  show _ ++ ((packS (kV k) ++ packM (lkG ks k)) ++ _) = _
  rw [List.append_assoc]
def nrmE (ks : List (Key × G)) (k : Key) : Key × G := (k, normG (lkG ks k))
theorem normG_dE (ks : List (Key × G)) : normG (.d ks) = .d ((sortK (ks.map (·.1))).map (nrmE ks)) := normG_d ks
theorem putG_new {ks : List (Key × G)} {k : Key} {g : G} (h : k ∉ ks.map (·.1)) : putG ks k g = ks ++ [(k, g)] := by
  unfold putG
  rw [if_neg]
  intro e
  obtain ⟨p, h1, h2⟩ := List.any_eq_true.mp e
  exact h (List.mem_map.mpr ⟨p, h1, of_decide_eq_true h2⟩)
theorem nrmE_keys (ks : List (Key × G)) (xs : List Key) : (xs.map (nrmE ks)).map (·.1) = xs := by rw [List.map_map]; exact List.map_id _
theorem nd_take {α : Type} {xs : List α} {i : Nat} {x : α} (nd : xs.Nodup) (h : xs[i]? = some x) : x ∉ xs.take i := by
  obtain ⟨hi, e⟩ := List.getElem?_eq_some_iff.mp h
  intro hm
  have e2 : xs = xs.take i ++ (x :: xs.drop (i + 1)) := by rw [← e, List.getElem_cons_drop, List.take_append_drop]
  rw [e2] at nd
  exact (List.nodup_append.mp nd).2.2 x hm x (List.mem_cons_self ..) rfl
theorem pack_ne {n : Nat} {g : G} (h : DOk n g) : packM g ≠ [] := by
  cases h with
  | @s _ v okv =>
    rw [packM]
    cases v with
    | int i =>
      show (if i < 0 then 4 :: nb (-i).toNat 4 else 3 :: nb i.toNat 4 : List Int) ≠ []
      split <;> exact List.cons_ne_nil _ _
    | non => exact List.cons_ne_nil _ _
    | bl b => exact List.cons_ne_nil _ _
    | str y => exact List.cons_ne_nil _ _
    | _ => exact okv.elim
  | t => rw [packM]; exact List.cons_ne_nil _ _
  | l => rw [packM]; exact List.cons_ne_nil _ _
  | d => rw [packM]; exact List.cons_ne_nil _ _
/-! ### equal data, copies -/
def spSameE (n : Nat) : Sp := fun vs H Q _ => (∃ x y g h D E, vs = [x, y] ∧ Gp H x g D ∧ Gp H y h E ∧ GEq g h ∧ (∀ a ∈ D, a ∉ E) ∧ h.dep < n ∧ Q (.bl true) H) ∨
  (2 ≤ n ∧ ∃ (a b : Addr) (ns : List Int), vs = [.ref a, .ref b] ∧ H a = some (.lst (ns.map V.int)) ∧ H b = some (.lst (ns.map V.int)) ∧ ns.length ≤ 1000000 ∧ Q (.bl true) H)
def spItemsE (n : Nat) : Sp := fun vs H Q _ => ∃ (a b : Addr) (xs ys : List V), vs = [.ref a, .ref b] ∧ ((H a = some (.lst xs) ∧ H b = some (.lst ys)) ∨ (H a = some (.tup xs) ∧ H b = some (.tup ys))) ∧ xs.length = ys.length ∧ xs.length ≤ 1000000 ∧
  (∀ (i : Nat) (x y : V), xs[i]? = some x → ys[i]? = some y → ∃ g h D E, Gp H x g D ∧ Gp H y h E ∧ GEq g h ∧ (∀ a ∈ D, a ∉ E) ∧ h.dep < n) ∧ Q (.bl true) H
def spCopyE (n : Nat) : Sp := fun vs H Q _ => (∃ x g D, vs = [x] ∧ Gp H x g D ∧ g.dep < n ∧ ∀ x' D' H', Gp H' x' g D' → Same H H' → (∀ a ∈ D', H a = none) → D'.Nodup → Q x' H') ∨
  (2 ≤ n ∧ ∃ (a : Addr) (ns : List Int), vs = [.ref a] ∧ H a = some (.lst (ns.map V.int)) ∧ ns.length ≤ 1000000 ∧ NewI H ns Q)
end Lt

set_option autoImplicit false
/-! ## records in frames -/
namespace Lt
open PySem PySem.Spec PyProof.Rows L2 TL
theorem DOk.up : ∀ {n : Nat} {g : G}, DOk n g → ∀ {m : Nat}, n ≤ m → DOk m g
  | _, _, .s h, _, _ => .s h
  | n + 1, _, .t hl h, m, hm => by
    obtain ⟨m, rfl⟩ : ∃ j, m = j + 1 := ⟨m - 1, by omega⟩
    exact .t hl fun g hg => (h g hg).up (by omega)
  | n + 1, _, .l hl h, m, hm => by
    obtain ⟨m, rfl⟩ : ∃ j, m = j + 1 := ⟨m - 1, by omega⟩
    exact .l hl fun g hg => (h g hg).up (by omega)
  | n + 1, _, .d hl hnd hk h, m, hm => by
    obtain ⟨m, rfl⟩ : ∃ j, m = j + 1 := ⟨m - 1, by omega⟩
    exact .d hl hnd hk fun g hg => (h g hg).up (by omega)
def frM (g : G) : List Int := nb (packM g).length 4 ++ packM g
def frL (gs : List G) : List Int := gs.flatMap frM
theorem frM_len (g : G) : (frM g).length = 4 + (packM g).length := by unfold frM; rw [List.length_append, nb_len]
def fitN : List G → Nat → Nat
  | [], _ => 0
  | g :: gs, c => if (frM g).length ≤ c then fitN gs (c - (frM g).length) + 1 else 0
theorem fit_le : ∀ (gs : List G) (c : Nat), fitN gs c ≤ gs.length
  | [], _ => Nat.le_refl _
  | g :: gs, c => by
    unfold fitN
    split
    · have := fit_le gs (c - (frM g).length); rw [List.length_cons]; omega
    · omega
theorem fit_iff : ∀ (gs : List G) (c k : Nat), k < gs.length → ((frL (gs.take (k + 1))).length ≤ c ↔ k < fitN gs c)
  | [], _, k, h => absurd h (Nat.not_lt_zero _)
  | g :: gs, c, k, h => by
    unfold fitN
    rw [List.take_succ_cons, frL, List.flatMap_cons, List.length_append]
    cases k with
    | zero =>
      rw [List.take_zero, List.flatMap_nil, List.length_nil]
      split <;> constructor <;> intro _ <;> omega
    | succ k =>
      rw [List.length_cons] at h
      split
      · rename_i hc
        have ih := fit_iff gs (c - (frM g).length) k (by omega)
        rw [frL] at ih
        constructor
        · intro h1
          have := ih.mp (by omega)
          omega
        · intro h1
          have := ih.mpr (by omega)
          omega
      · rename_i hc
        constructor <;> intro _ <;> omega
theorem frL_take {gs : List G} {i : Nat} {g : G} (h : gs[i]? = some g) : frL (gs.take (i + 1)) = frL (gs.take i) ++ frM g := by
  unfold frL
  rw [List.take_add_one, h, List.flatMap_append]
  simp
theorem frL_at {gs : List G} {i : Nat} {g : G} (h : gs[i]? = some g) : frL gs = frL (gs.take i) ++ (nb (packM g).length 4 ++ (packM g ++ frL (gs.drop (i + 1)))) := by
  obtain ⟨hi, e⟩ := List.getElem?_eq_some_iff.mp h
  have e2 : gs = gs.take i ++ (g :: gs.drop (i + 1)) := by rw [← e, List.getElem_cons_drop, List.take_append_drop]
  have e3 := congrArg frL e2
  rw [e3]
  unfold frL
  rw [List.flatMap_append, List.flatMap_cons, frM, List.append_assoc]
theorem frL_len {n : Nat} {gs : List G} (h : ∀ g ∈ gs, DOk n g) : (frL gs).length ≤ gs.length * (4 + plen n) := flat_le fun g hg => by
  rw [frM_len]
  have := pack_len (h g hg)
  omega
theorem frL_mono (gs : List G) (i : Nat) : (frL (gs.take i)).length ≤ (frL gs).length := by
  have e : frL gs = frL (gs.take i) ++ frL (gs.drop i) := by
    have := congrArg frL (List.take_append_drop i gs).symm
    rw [this]; unfold frL; rw [List.flatMap_append]
  rw [e, List.length_append]; omega
theorem cut_in (zs : List Int) (cut a k : Nat) (h : a + k ≤ cut) : ((zs.take cut).drop a).take k = (zs.drop a).take k := by
  rw [List.drop_take, List.take_take, Nat.min_eq_left (by omega)]
theorem cut_midI (zs : List Int) (a k : Nat) (h : a + k ≤ zs.length) {u v : Int} (hu : u = a) (hv : v = (a : Int) + k) : cutV (zs.map V.int) (some u) (some v) = ((zs.drop a).take k).map V.int := by
  subst hu hv
  rw [cut_mid _ _ _ (by rw [List.length_map]; exact h), List.map_take, List.map_drop]
theorem drop_mid {zs as bs cs : List Int} (e : zs = as ++ (bs ++ cs)) : (zs.drop as.length).take bs.length = bs := by
  rw [e, List.drop_append_of_le_length (Nat.le_refl _), List.drop_length, List.nil_append, List.take_append_of_le_length (Nat.le_refl _), List.take_length]
def spFrame : Sp := fun vs H Q _ => ∃ v g D, vs = [v] ∧ Gp H v g D ∧ DOk 4 g ∧ NewI H (frM g) Q
def spRecs : Sp := fun vs H Q _ => ∃ (B : Addr) (gs : List G) (cut : Nat), vs = [.ref B] ∧ H B = some (.lst (((frL gs).take cut).map V.int)) ∧ (∀ g ∈ gs, DOk 2 g) ∧ gs.length ≤ 5 ∧ cut ≤ (frL gs).length ∧
  ∀ L xs D H', H' L = some (.lst xs) → GpL H' xs (normL (gs.take (fitN gs cut))) D → (∀ b ∈ D, H b = none) → L ∉ D → H L = none → Same H H' → Q (.ref L) H'
theorem fr_total {gs : List G} (h : ∀ g ∈ gs, DOk 2 g) (l : gs.length ≤ 5) : (frL gs).length ≤ 400000 := by
  have h1 := frL_len h
  have h2 : gs.length * (4 + plen 2) ≤ 5 * (4 + plen 2) := Nat.mul_le_mul_right _ l
  have h3 : 5 * (4 + plen 2) ≤ 400000 := by decide
  exact Nat.le_trans h1 (Nat.le_trans h2 h3)
/-- two lists of the same ints -/
theorem ints_dp {K : PySem.W.Frag} {H : Hp} : ∀ ns : List Int, DpAll K H (ns.map V.int) (ns.map PyData.int)
  | [] => .nil
  | n :: ns => .cons (.int n) (ints_dp ns)
theorem ints_lay : ∀ ns : List Int, PyData.canLayAll0 (ns.map PyData.int) = true
  | [] => by simp [PyData.canLayAll0]
  | n :: ns => by rw [List.map_cons, PyData.canLayAll0, ints_lay ns]; rfl
theorem ints_depth : ∀ ns : List Int, PyData.depthAll (ns.map PyData.int) = 0
  | [] => rfl
  | n :: ns => by rw [List.map_cons, PyData.depthAll, ints_depth ns]; rfl
theorem ints_shaped (ns : List Int) : SeqAt.shaped (.list (ns.map PyData.int)) = true := by
  unfold SeqAt.shaped
  rw [PyData.canLay0, ints_lay, PyData.depth, ints_depth]
  rfl
theorem ints_eqvA : ∀ ns : List Int, PyData.eqvAll (ns.map PyData.int) (ns.map PyData.int) = true
  | [] => by simp [PyData.eqvAll]
  | n :: ns => by rw [List.map_cons, PyData.eqvAll, ints_eqvA ns]; simp [PyData.eqv]
theorem ints_eqv (ns : List Int) : PyData.eqv (.list (ns.map PyData.int)) (.list (ns.map PyData.int)) = true := by rw [PyData.eqv]; exact ints_eqvA ns
theorem GpL.pre {H : Hp} : ∀ (n : Nat) {gs : List G} {xs : List V} {D : List Addr}, GpL H xs gs D → ∃ D', GpL H (xs.take n) (gs.take n) D' ∧ ∀ a ∈ D', a ∈ D
  | 0, _, _, _, _ => ⟨[], by rw [List.take_zero, List.take_zero]; exact .nil, fun a h => by cases h⟩
  | n + 1, _, _, _, .nil => ⟨[], .nil, fun a h => h⟩
  | n + 1, _, _, _, .cons (D := D1) h r => by
    obtain ⟨D', r', i⟩ := GpL.pre n r
    refine ⟨D1 ++ D', .cons h r', fun a ha => ?_⟩
    rcases List.mem_append.mp ha with ha | ha
    · exact List.mem_append.mpr (.inl ha)
    · exact List.mem_append.mpr (.inr (i a ha))
theorem normL_geq {n : Nat} {gs : List G} (h : ∀ g ∈ gs, DOk n g) : GEq (.l (normL gs)) (.l gs) := by
  refine .l (by rw [normL_map, List.length_map]) fun i g g' e1 e2 => ?_
  rw [normL_map, List.getElem?_map, e2] at e1
  cases e1
  exact norm_eq (h g' (List.mem_of_getElem? e2))
/-- where the frames end -/
def endsL (gs : List G) (i : Nat) : List Int := (List.range i).map fun k => (((frL (gs.take (k + 1))).length : Nat) : Int)
theorem endsL_succ (gs : List G) (i : Nat) : endsL gs (i + 1) = endsL gs i ++ [(((frL (gs.take (i + 1))).length : Nat) : Int)] := by unfold endsL; rw [List.range_succ, List.map_append]; rfl
theorem endsL_len (gs : List G) (i : Nat) : (endsL gs i).length = i := by unfold endsL; rw [List.length_map, List.length_range]
theorem endsL_at (gs : List G) {i n : Nat} (h : i < n) : (endsL gs n)[i]? = some (((frL (gs.take (i + 1))).length : Nat) : Int) := by unfold endsL; rw [List.getElem?_map, List.getElem?_range h]; rfl
theorem endsL_mem {gs : List G} {n : Nat} {x : Int} (h : x ∈ endsL gs n) : ∃ m : Nat, x = m ∧ m ≤ (frL gs).length := by
  obtain ⟨k, _, e⟩ := List.mem_map.mp h
  exact ⟨_, e.symm, frL_mono gs (k + 1)⟩
end Lt

set_option autoImplicit false
namespace Lt
open PySem PySem.Spec PyProof.Rows L2 TL
open C8 (pss_cut)
/-! ## errors of the program -/
/-- C(e, ..), C an own exception class with an own __init__: its context is None -/
theorem pmk_ownN {X : Cx} {CX : CXT} {x : Str} {e : Expr} {es : List Expr} {ta : TA} {p pos : Pos} {C fI : Addr} {k : Nat} {fd : FuncData} {ps : List Str} {sp : Sp} (T : OexC X.K C)
    (iC : PySem.W.findIn X.K (.ref C) "__init__" = some (some (.ref fI))) (tI : PySem.W.typeIn X.K (.ref fI) = some (.type "function"))
    (G : FnOk X.prog X.w X.K X.mg X.base CX k fI fd ps sp) (hr : Room (k + 1) X.A) (hb : Binds X.K fd ps []) (hx : Passes CX X (fun _ _ _ => False)) (hg : Gl X x) (hm : X.mg x = some (.ref C)) (ha : PA X (e :: es) ta)
    (hdb : (x == ("__debug__" : Str)) = false := by decide) (he : starEach (e :: es) X.env = (false, eval e X.env) :: starEach es X.env := by rfl) (hpl : (backTo pos (starEach es X.env)).any (·.1) = false := by rfl) :
    L2N.PMk X (.Call (.Name x p) (e :: es) [] pos) (tMkO C sp [] ta) := fun pins s σ H Q I h => by
  obtain ⟨_, _, _, _, bm, _, _, _, _, _, _, _, _, _, _, hcl, hbm⟩ := T.cls
  refine wpAny_Call_Name_kw (ld_glob I hg hm (PySem.W.callWith_K (h₀ := X.base) I.ok.mod.kin T.kC (thn (ha.run pos pins s σ H _ I h) fun us s1 w => ?_) he hpl) hdb)
  obtain ⟨vs, H1, J, rv, lv, q⟩ := w
  refine ⟨J.kIn, ?_⟩
  show wpAny _ _ (call (.ref C) us) _ _ _
  obtain ⟨hp, gs, dr, tok, os⟩ := s1
  generalize hA : hp.objs.size + 1 = A
  have le : hp.objs.size ≤ A := by omega
  have q := q A (J.hok.fresh le)
  rw [List.append_nil] at q
  have keep : ∀ b o, hp.get? b = some o → ((hp.push (PySem.W.kdv_tup us)).push (PySem.HandSPX.excO C hp.objs.size)).get? b = some o := fun _ _ g => Heap.get?_push_of_some _ (Heap.get?_push_of_some _ g)
  have there : ((hp.push (PySem.W.kdv_tup us)).push (PySem.HandSPX.excO C hp.objs.size)).get? A = some (PySem.HandSPX.excO C hp.objs.size) := by rw [← hA]; heap_get
  have J2 : Inv X pins σ (upd H1 A (exo A C none)) ⟨(hp.push (PySem.W.kdv_tup us)).push (PySem.HandSPX.excO C hp.objs.size), gs, dr, tok, os⟩ := J.laid (t' := tok) keep le (exo_ok there)
  have rv2 : Vals (V.ref A :: vs) (Value.ref A :: us) := .cons rfl rv
  have len : (Value.ref A :: us ++ []).length = ps.length := by rw [List.append_nil, ← rv2.length, G.len _ _ _ _ q]
  have bi := hb _ (Value.ref A :: us) J2.kIn len
  rw [List.append_nil] at bi
  have lus : us.length ≤ sizeLine := by rw [← Paired.length rv, sizeLine_eq]; omega
  subst hA
  refine wpAny_call (PySem.HandSPX.call_own F.excBase_ValueError (fun Y => PySem.HandSPX.refsVE_contains Y bm hbm) (J.kIn _ _ hcl) (PySem.W.looks_findIn J.kIn iC) (fun self => PySem.W.bind_fn J.kIn self tI) lus
    (codeAny_mono (G.run _ X.stack _ _ ⟨Value.ref (hp.objs.size + 1) :: us, []⟩ (Value.ref (hp.objs.size + 1) :: us) _ _ (fun _ _ _ => False) (hr.make C us []) (J2.env0.make C us []) bi rv2 q) fun r s' w => ?_))
  cases r with
  | error er => exact hx pins σ _ _ er s' J2 w
  | ok fl =>
    cases fl with
    | ret u =>
      obtain ⟨v, H2, eo, bare, un, hok, ru, rfl, d, fs, ea, ed, hd, q2⟩ := w
      obtain ⟨h2, g2, d2, t2, os'⟩ := s'
      obtain ⟨t0, G0, K0, kG, ge, hoe, na⟩ := mk_end0 (d2 := d2) (t2 := t2) J le keep un hok eo bare ea ed hd
      exact ⟨ru, _, _, _, ⟨G0, g2, d2, t2, os'⟩, _, .ref C, some d, rfl, K0, kG, ge, hoe, ⟨rfl, rfl, fun vs e => by cases e; rfl⟩, rfl, rfl, na, rfl, bare, raises_own T.exC T.tyC, q2⟩
    | next => exact w.elim
    | brk => exact w.elim
    | cont => exact w.elim
/-- what can't be reached -/
theorem ps_no {X : Cx} {st : Stmt} : PS X st (fun _ _ _ => False) := ⟨fun _ _ _ _ _ _ h => h.elim⟩
theorem pss_no {X : Cx} {sts : List Stmt} : PSs X sts (fun _ _ _ => False) := ⟨fun _ _ _ _ _ _ h => h.elim⟩
theorem pe_no {X : Cx} {e : Expr} : PE X e (fun _ _ _ => False) := ⟨fun _ _ _ _ _ _ h => h.elim⟩
/-- what the text says of an error class of two fields -/
structure ErrC (K : PySem.W.Frag) (mg : Str → Option Value) (x f1 f2 : Str) (C fI : Addr) : Prop where
  gC : mg x = some (.ref C)
  T : OexC K C
  iC : PySem.W.findIn K (.ref C) "__init__" = some (some (.ref fI))
  tI : PySem.W.typeIn K (.ref fI) = some (.type "function")
  n1 : PySem.W.findIn K (.ref C) f1 = some none
  n2 : PySem.W.findIn K (.ref C) f2 = some none
  xf : XfC K C
  te : PySem.W.exmOne K (.ref C) (.ref C) = some true
/-- __init__(self, a, b): self.f1 = a; self.f2 = b -/
def spInit2 (K : PySem.W.Frag) (C : Addr) (f1 f2 : Str) : Sp := fun vs H Q _ => ∃ (a : Addr) (u v : V), vs = [.ref a, u, v] ∧ OexC K C ∧ PySem.W.findIn K (.ref C) f1 = some none ∧ PySem.W.findIn K (.ref C) f2 = some none ∧ H a = some (exo a C none) ∧
  ∀ d, H d = none → d ≠ a → Q .non (upd (upd (upd H d (exd d [(f1, u)])) a (exo a C (some d))) d (exd d [(f2, v), (f1, u)]))
/-- C(u, v) raised: its fields stand in a dict of its own -/
theorem raise2 {K : PySem.W.Frag} {mg : Str → Option Value} {x f1 f2 : Str} {C fI : Addr} (c : ErrC K mg x f1 f2 C fI) {H : Hp} {Q : XK} {u v : V} (q : ∀ d, H d = none → Q (.ref C) (some d) (upd H d (.xd [(f2, v), (f1, u)]))) :
    ∀ a, H a = none → spInit2 K C f1 f2 (.ref a :: ([u, v] ++ [])) (upd H a (exo a C none)) (fun w H2 => w = .non ∧ ∃ (d : Addr) (fs : List (Str × V)), H2 a = some (exo a C (some d)) ∧ H2 d = some (exd d fs) ∧ H d = none ∧ Q (.ref C) (some d) (upd (del H2 a) d (.xd fs))) (fun _ _ _ => False) := fun a ha => by
  refine ⟨a, u, v, rfl, c.T, c.n1, c.n2, upd_same, fun d hd hda => ⟨rfl, d, _, ?_, upd_same, ?_, ?_⟩⟩
  · rw [upd_ne hda.symm]; exact upd_same
  · rw [upd_ne hda] at hd; exact hd
  · have hd' : H d = none := by rw [upd_ne hda] at hd; exact hd
    have e : upd (del (upd (upd (upd (upd H a (exo a C none)) d (exd d [(f1, u)])) a (exo a C (some d))) d (exd d [(f2, v), (f1, u)])) a) d (.xd [(f2, v), (f1, u)]) = upd H d (.xd [(f2, v), (f1, u)]) := by
      funext b
      by_cases h1 : b = d
      · subst h1; rw [upd_same, upd_same]
      · rw [upd_ne h1, upd_ne h1]
        by_cases h2 : b = a
        · subst h2; rw [del_same, ha]
        · rw [del_ne h2, upd_ne h1, upd_ne h2, upd_ne h1, upd_ne h2]
    rw [e]
    exact q d hd'
def clsSt : Stmt → Nat → Stmt
  | .ClassDef (body := b) .., j => b.getD j (.Pass ⟨0, 0, 0, 0⟩)
  | _, _ => .Pass ⟨0, 0, 0, 0⟩
structure ErrK (P : Program) (w : World) (K : PySem.W.Frag) (mg : Str → Option Value) (base : Heap) (x f1 f2 : Str) (C fI : Addr) (fdI : FuncData) : Prop where
  c : ErrC K mg x f1 f2 C fI
  G : FnOk P w K mg base CX0 1 fI fdI ["self", f1, f2] (spInit2 K C f1 f2)
  b : Binds K fdI ["self", f1, f2] []
section
variable {P : Program} {w : World} {K : PySem.W.Frag} {mg : Str → Option Value} {base : Heap}
/-- a def that may raise -/
theorem okN {x qual : Str} {st : Stmt} {f : Addr} {fd : FuncData} {N ps : List Str} {k : Nat} {sp : Sp} (F : Fun K x qual st f fd) (S : FnScope N ps (defScope st)) (len : ∀ vs H Q E, sp vs H Q E → vs.length = ps.length)
    (hbody : ∀ (cdv : Value) (A : Around) (outer : List Env) (s : Shared) (H : Hp) (vs : List V) (Q : VK) (E : XK), Room k (A.deeper (envOfC qual (defScope st) s.heap.objs.size f cdv)) → sp vs H Q E →
      ∃ t, PSs (cxOf (L2N.CX P w) P w K mg base N qual (defScope st) f cdv A outer s H E) (defBody st) t ∧ t { nx := fun _ H' => Q .non H', rt := Q } (start N vs) H) : FnOk P w K mg base (L2N.CX P w) (k + 1) f fd ps sp := by
  obtain ⟨oc, od, kV, doc, pm, an, cdv, ct, osl, rfl, lk, hcd⟩ := F.ex
  exact fn_of lk hcd S len fun A outer s H vs Q E hr h => hbody cdv A outer s H vs Q E hr h
/-- a def called where an exception is handled -/
theorem okH {x qual : Str} {st : Stmt} {f : Addr} {fd : FuncData} {N ps : List Str} {k : Nat} {sp : Sp} (F : Fun K x qual st f fd) (S : FnScope N ps (defScope st)) (len : ∀ vs H Q E, sp vs H Q E → vs.length = ps.length)
    (hbody : ∀ (cdv : Value) (A : Around) (outer : List Env) (s : Shared) (H : Hp) (vs : List V) (Q : VK) (E : XK) (p : Addr × Obj), L2H.Hot1 A p → L2H.RoomH k (A.deeper (envOfC qual (defScope st) s.heap.objs.size f cdv)) → sp vs H Q E →
      ∃ t, PSs (L2H.cxH CX0 P w K mg base N qual (defScope st) f cdv A outer s H E p) (defBody st) t ∧ t { nx := fun _ H' => Q .non H', rt := Q } (start N vs) H) : L2H.FnH P w K mg base CX0 (k + 1) f fd ps sp := by
  obtain ⟨oc, od, kV, doc, pm, an, cdv, ct, osl, rfl, lk, hcd⟩ := F.ex
  exact L2H.fn_ofH lk hcd S len fun A outer s H vs Q E p hot hr h => hbody cdv A outer s H vs Q E p hot hr h
/-- a walked def that may raise -/
structure CalX (P : Program) (w : World) (K : PySem.W.Frag) (mg : Str → Option Value) (base : Heap) (n : Nat) (x : Str) (ps : List Str) (sp : Sp) (g : Addr) (gd : FuncData) : Prop where
  G : FnOk P w K mg base (L2N.CX P w) n g gd ps sp
  m : mg x = some (.ref g)
  kp : PySem.W.keepIn K (.ref g) = true
  b : Binds K gd ps []
theorem Kn.calX {n : Nat} {x : Str} {st : Stmt} {ps : List Str} {sp : Sp} {g : Addr} {gd : FuncData} (k : Kn K mg x st ps g gd) (G : FnOk P w K mg base (L2N.CX P w) n g gd ps sp) : CalX P w K mg base n x ps sp g gd := ⟨G, k.m, k.F.kp, k.b⟩
structure CalH (P : Program) (w : World) (K : PySem.W.Frag) (mg : Str → Option Value) (base : Heap) (n : Nat) (x : Str) (ps : List Str) (sp : Sp) (g : Addr) (gd : FuncData) : Prop where
  G : L2H.FnH P w K mg base CX0 n g gd ps sp
  m : mg x = some (.ref g)
  kp : PySem.W.keepIn K (.ref g) = true
  b : Binds K gd ps []
theorem Kn.calH {n : Nat} {x : Str} {st : Stmt} {ps : List Str} {sp : Sp} {g : Addr} {gd : FuncData} (k : Kn K mg x st ps g gd) (G : L2H.FnH P w K mg base CX0 n g gd ps sp) : CalH P w K mg base n x ps sp g gd := ⟨G, k.m, k.F.kp, k.b⟩
end
theorem takes0N {X : Cx} : L2N.Takes X (fun _ _ _ _ => False) := fun _ _ ⟨_, _, _, _, _, _, _, _, _, _, _, _, _, _, _, _, w⟩ => w.elim
theorem hotc {X : Cx} {a : Addr} {oe : Obj} {cls : Value} {d : Option Addr} {pn : List (Addr × Obj)} (hz : L2N.Zn cls d oe) (hf : ∃ vs, oe.data = .fields vs) : L2H.HotC (X.suite a ((a, oe) :: pn)) := by
  obtain ⟨vs, e⟩ := hf
  exact ⟨(a, oe), ⟨rfl, vs, e, hz.2.2 vs e⟩, List.mem_cons_self⟩
theorem hotp {CX : CXT} {P : Program} {w : World} {K : PySem.W.Frag} {mg : Str → Option Value} {base : Heap} {N : List Str} {qual : Str} {scope : Scope} {f : Addr} {cd : Value} {A : Around} {outer : List Env} {s : Shared} {H : Hp} {E : XK} {p : Addr × Obj} (h : L2H.Hot1 A p) :
    L2H.HotC (L2H.cxH CX P w K mg base N qual scope f cd A outer s H E p) := ⟨p, h, List.mem_cons_self⟩
theorem passN {X : Cx} {E : XK} : ∀ σ : L2.St, PassesAt CX0 X σ E := fun _ _ _ _ _ _ _ h => h.elim
theorem err_mk {K : PySem.W.Frag} {mg : Str → Option Value} {x f1 f2 : Str} {C fI N : Addr} {nm q : Str} {bs sub bm : List Value} {sn : List Str} {ab : Bool} {col : Option Bool} {dd : Option Addr} {m0 m1 m2 m3 m5 : Option Value}
    (gC : mg x = some (.ref C)) (xL : K.lookup C = some (excClassObj nm q C N bs bm true sn sub ab col dd m0 m1 m2 m3 m5 "ValueError.__new__")) (hb : PySem.HandSPX.refsVE bm = true)
    (sa : PySem.W.findIn K (.ref C) "__setattr__" = some (some (.builtin "object.__setattr__"))) (ga : PySem.W.findIn K (.ref C) "__getattribute__" = some (some (.builtin "BaseException.__getattribute__"))) (gg : PySem.W.findIn K (.ref C) "__getattr__" = some none)
    (n1 : PySem.W.findIn K (.ref C) f1 = some none) (n2 : PySem.W.findIn K (.ref C) f2 = some none) (iC : PySem.W.findIn K (.ref C) "__init__" = some (some (.ref fI))) (tI : PySem.W.typeIn K (.ref fI) = some (.type "function"))
    (kC : PySem.W.keepIn K (.ref C) = true) (eC : PySem.W.subIn K (.ref C) (.type "BaseException") = some true) (tC : PySem.W.typeIn K (.ref C) = some (.type "type")) (hC : PySem.W.hasDictIn K C = true) (sC : PySem.W.subIn K (.ref C) (.ref C) = some true) : ErrC K mg x f1 f2 C fI :=
  ⟨gC, ⟨⟨nm, q, N, bs, bm, sn, sub, ab, col, dd, m0, m1, m2, m3, m5, xL, hb⟩, sa, eC, tC, kC⟩, iC, tI, n1, n2, ⟨ga, gg, eC, hC⟩, PySem.W.exm_ref eC hC tC sC⟩
end Lt

set_option autoImplicit false
/-! ## the end over a head by facts -/
namespace Lt
open PySem PySem.Spec PyProof.Rows L2
/-- where the names of the top, their code, the classes' parts stand -/
def refS (o : Obj) : List Addr := match o.data with
  | .func fd => He.refV fd.code
  | .cls cd => cd.ns :: cd.mro.flatMap He.refV
  | .dict es _ => es.toList.flatMap fun e => He.refV e.val
  | _ => []
def stepA (g : Addr → Option Obj) (as : List Addr) : List Addr := as.flatMap fun a => match g a with
  | some o => refS o
  | none => []
def asL (xs cs : List Str) (g : Addr → Option Obj) : List Addr :=
  mainGlobals :: (xs.map (He.ga (He.frG g [mainGlobals])) ++ (stepA g (xs.map (He.ga (He.frG g [mainGlobals]))) ++ (cs.map (He.ga (He.frG g [mainGlobals])) ++ (stepA g (cs.map (He.ga (He.frG g [mainGlobals]))) ++ (stepA g (stepA g (cs.map (He.ga (He.frG g [mainGlobals])))) ++ stepA g (stepA g (stepA g (cs.map (He.ga (He.frG g [mainGlobals]))))))))))
def hookL (as : (Addr → Option Obj) → List Addr) (fa : List He.Fa) (fn : List He.FnD) (ex : PySem.W.Frag → Bool) : PySem.W.Hook where
  α := He.Al × Bool
  obs := fun s => (He.obsE fa fn (He.frG s.heap.get? (as s.heap.get?)), ex (He.frG s.heap.get? (as s.heap.get?)))
  val := fun _ => (He.valE fn, true)
  says := fun _ h => ∃ K : PySem.W.Frag, K.In h ∧ (He.SaysE fa fn K ∧ ex K = true)
  of := fun _ _ e => ⟨_, He.frG_in, congrArg (fun z : He.Al × Bool => z.1) e, congrArg (fun z : He.Al × Bool => z.2) e⟩
  keeps := fun _ _ _ ⟨K, hK, c⟩ k => ⟨K, PySem.W.Frag.In.keeps hK k, c⟩
def obL (as : (Addr → Option Obj) → List Addr) (fa : List He.Fa) (fn : List He.FnD) (ex : PySem.W.Frag → Bool) (g : Addr → Option Obj) : He.Al × Bool := (He.obsE fa fn (He.frG g (as g)), ex (He.frG g (as g)))
theorem obL_eq {as : (Addr → Option Obj) → List Addr} {fa : List He.Fa} {fn : List He.FnD} {ex : PySem.W.Frag → Bool} {g : Addr → Option Obj} {s : Shared} (h : ∀ a, g a = s.heap.get? a) : obL as fa fn ex g = (hookL as fa fn ex).obs s := by
  have e : g = s.heap.get? := funext h
  rw [e] <;> rfl
/-- an error class -/
def clsB (K : PySem.W.Frag) (C : Addr) : Bool := match K.lookup C with
  | some ⟨.type t, _, .cls cd, sl⟩ => (match cd.mro, sl.toList with
    | .ref C' :: bm, [_, _, _, _, some (.builtin n), _] => decide (t = "type") && (decide (C' = C) && (decide (n = "ValueError.__new__") && (cd.hasDict && (!cd.hasDel && HandSPX.refsVE bm))))
    | _, _ => false)
  | _ => false
theorem clsB_ok {K : PySem.W.Frag} {C : Addr} (h : clsB K C = true) : ∃ nm q N bs bm sn sub ab col dd k0 k1 k2 k3 k5, K.lookup C = some (excClassObj nm q C N bs bm true sn sub ab col dd k0 k1 k2 k3 k5 "ValueError.__new__") ∧ HandSPX.refsVE bm = true := by
  unfold clsB at h
  split at h
  · rename_i t dd cd sl hl
    split at h
    · rename_i C' bm k0 k1 k2 k3 n k5 hm hs
      obtain ⟨h1, h⟩ := He.ba h
      obtain ⟨h2, h⟩ := He.ba h
      obtain ⟨h3, h⟩ := He.ba h
      obtain ⟨h4, h⟩ := He.ba h
      obtain ⟨h5, h6⟩ := He.ba h
      have e1 := of_decide_eq_true h1
      have e2 := of_decide_eq_true h2
      have e3 := of_decide_eq_true h3
      obtain ⟨nm, bs, mro, ns, qn, hd, sn, sub, ab, col, del⟩ := cd
      obtain ⟨sl⟩ := sl
      simp only at hm hs h4 h5
      subst hm hs e1 e2 e3
      subst h4
      cases del with
      | true => cases h5
      | false => exact ⟨_, _, _, _, _, _, _, _, _, _, _, _, _, _, _, hl, h6⟩
    · cases h
  · cases h
def errB (K : PySem.W.Frag) (x f1 f2 : Str) : Bool :=
  let C := He.ga K x
  clsB K C && (He.eqO (PySem.W.findIn K (.ref C) "__setattr__") (some (some (.builtin "object.__setattr__"))) && (He.eqO (PySem.W.findIn K (.ref C) "__getattribute__") (some (some (.builtin "BaseException.__getattribute__"))) && (He.eqO (PySem.W.findIn K (.ref C) "__getattr__") (some none) &&
  (He.eqO (PySem.W.findIn K (.ref C) f1) (some none) && (He.eqO (PySem.W.findIn K (.ref C) f2) (some none) && (He.eqO (PySem.W.findIn K (.ref C) "__init__") (some (some (.ref (He.ma K C "__init__")))) && (decide (PySem.W.typeIn K (.ref (He.ma K C "__init__")) = some (.type "function")) &&
  (PySem.W.keepIn K (.ref C) && (decide (PySem.W.subIn K (.ref C) (.type "BaseException") = some true) && (decide (PySem.W.typeIn K (.ref C) = some (.type "type")) && (PySem.W.hasDictIn K C && (decide (PySem.W.subIn K (.ref C) (.ref C) = some true) && PySem.W.keepIn K (.ref (He.ma K C "__init__"))))))))))))))
theorem errB_ok {K : PySem.W.Frag} {mg : Str → Option Value} {x f1 f2 : Str} (h : errB K x f1 f2 = true) (gC : mg x = some (.ref (He.ga K x))) : ErrC K mg x f1 f2 (He.ga K x) (He.ma K (He.ga K x) "__init__") ∧ PySem.W.keepIn K (.ref (He.ma K (He.ga K x) "__init__")) = true := by
  unfold errB at h
  obtain ⟨h1, h⟩ := He.ba h
  obtain ⟨h2, h⟩ := He.ba h
  obtain ⟨h3, h⟩ := He.ba h
  obtain ⟨h4, h⟩ := He.ba h
  obtain ⟨h5, h⟩ := He.ba h
  obtain ⟨h6, h⟩ := He.ba h
  obtain ⟨h7, h⟩ := He.ba h
  obtain ⟨h8, h⟩ := He.ba h
  obtain ⟨h9, h⟩ := He.ba h
  obtain ⟨h10, h⟩ := He.ba h
  obtain ⟨h11, h⟩ := He.ba h
  obtain ⟨h12, h⟩ := He.ba h
  obtain ⟨h13, h14⟩ := He.ba h
  obtain ⟨nm, q, N, bs, bm, sn, sub, ab, col, dd, k0, k1, k2, k3, k5, xL, hb⟩ := clsB_ok h1
  exact ⟨err_mk gC xL hb (He.eqO_ok h2) (He.eqO_ok h3) (He.eqO_ok h4) (He.eqO_ok h5) (He.eqO_ok h6) (He.eqO_ok h7) (of_decide_eq_true h8) h9 (of_decide_eq_true h10) (of_decide_eq_true h11) h12 (of_decide_eq_true h13), h14⟩
end Lt

set_option autoImplicit false
/-! ## objects of the program's own classes; errors without fields -/
namespace Lt
open PySem PySem.Spec PyProof.Rows L2 TL
/-- what the text says of an error class without fields, whose base is S -/
structure Err0 (K : PySem.W.Frag) (mg : Str → Option Value) (x : Str) (C S : Addr) : Prop where
  gC : mg x = some (.ref C)
  xP : PySem.W.excIn K C He.veBase "ValueError.__new__" = true
  kP : PySem.W.keepIn K (.ref C) = true
  bP : PySem.W.subIn K (.ref C) (.type "BaseException") = some true
  tP : PySem.W.typeIn K (.ref C) = some (.type "type")
  te : PySem.W.exmOne K (.ref C) (.ref C) = some true
  is : ExcC K C ∧ PySem.W.kitOne K (.ref C) (.ref S) = some true
  g_StoreError : mg "StoreError" = some (.ref S)
def err0B (K : PySem.W.Frag) (x s : Str) : Bool :=
  let C := He.ga K x
  PySem.W.excIn K C He.veBase "ValueError.__new__" && (PySem.W.keepIn K (.ref C) && (decide (PySem.W.subIn K (.ref C) (.type "BaseException") = some true) && (decide (PySem.W.typeIn K (.ref C) = some (.type "type")) && (decide (PySem.W.exmOne K (.ref C) (.ref C) = some true) &&
  (He.eqO (PySem.W.findIn K (.ref C) "__getattribute__") (some (some (.builtin "BaseException.__getattribute__"))) && (He.eqO (PySem.W.findIn K (.ref C) "__getattr__") (some none) && (PySem.W.hasDictIn K C && (He.eqO (PySem.W.findIn K (.ref C) "__class__") (some (some (.builtin "object.__class__"))) &&
  (He.eqO (PySem.W.specialIn K (.builtin "object.__class__") "__get__") (some (some (.builtin "getset_descriptor.__get__"))) && (decide (PySem.W.takesIn K (.builtin "object.__class__") = some true) && (decide (PySem.W.mroIn K C (.type "object") = some true) && decide (PySem.W.kitOne K (.ref C) (.ref (He.ga K s)) = some true))))))))))))
theorem err0B_ok {K : PySem.W.Frag} {mg : Str → Option Value} {x s : Str} (h : err0B K x s = true) (gC : mg x = some (.ref (He.ga K x))) (gS : mg "StoreError" = some (.ref (He.ga K s))) : Err0 K mg x (He.ga K x) (He.ga K s) := by
  unfold err0B at h
  obtain ⟨h1, h⟩ := He.ba h
  obtain ⟨h2, h⟩ := He.ba h
  obtain ⟨h3, h⟩ := He.ba h
  obtain ⟨h4, h⟩ := He.ba h
  obtain ⟨h5, h⟩ := He.ba h
  obtain ⟨h6, h⟩ := He.ba h
  obtain ⟨h7, h⟩ := He.ba h
  obtain ⟨h8, h⟩ := He.ba h
  obtain ⟨h9, h⟩ := He.ba h
  obtain ⟨h10, h⟩ := He.ba h
  obtain ⟨h11, h⟩ := He.ba h
  obtain ⟨h12, h13⟩ := He.ba h
  exact ⟨gC, h1, h2, of_decide_eq_true h3, of_decide_eq_true h4, of_decide_eq_true h5, ⟨⟨He.eqO_ok h6, He.eqO_ok h7, of_decide_eq_true h3, h8, He.eqO_ok h9, He.eqO_ok h10, of_decide_eq_true h11, of_decide_eq_true h12⟩, of_decide_eq_true h13⟩, gS⟩
/-- C(), C an own exception class without own __init__ -/
theorem pmk_own0 {X : Cx} {C : Addr} {bmB : List Value} {B newId initId : String} {x : Str} {p pos : Pos} (F : ExcBaseFacts B newId initId bmB) (q : PySem.W.excIn X.K C bmB newId = true) (gC : X.mg x = some (.ref C)) (kC : PySem.W.keepIn X.K (.ref C) = true) (r : Raises X (.ref C)) (hg : Gl X x)
    (hdb : (x == ("__debug__" : Str)) = false := by decide) : L2N.PMk X (.Call (.Name x p) [] [] pos) (fun _ H Q => Q (.ref C) none H) := by
  intro pins s σ H Q I h
  refine wpAny_Call_Name_kw (ld_glob I hg gC ?_ hdb)
  refine PySem.W.callWith_K0 I.kIn kC ?_
  show wpAny _ _ (call (.ref C) []) _ _ _
  obtain ⟨bm, N, nm, qn, bs, hdct, sn, sub, ab, col, dd, k0, k1, k2, k3, k5, mN, hC, hN, hni, T⟩ := exc_obj I.kIn q
  refine wpAny_call_exc_subT F T hC hN hni (fun h' e hm => ?_) (by show 0 ≤ sizeLine; rw [sizeLine_eq]; omega)
  exact L2N.mk_of I hm r h (I.hok.gone hm.new)
/-- isinstance(e, S) of a caught error without fields -/
theorem call_isS {X : Cx} {a C S : Addr} {oe : Obj} {pn : List (Addr × Obj)} {cls : Value} {d : Option Addr} (c : ExcC X.K C ∧ PySem.W.kitOne X.K (.ref C) (.ref S) = some true) (hz : Zc cls d oe) (hf : ∃ vs, oe.data = .fields vs) :
    CallR (X.suite a ((a, oe) :: pn)) (.builtin "isinstance") (fun xs H Q => cls = .ref C ∧ d = none ∧ xs = [.ref a, .ref S] ∧ Q (.bl true) H) := fun pins s σ H xs us Q I r h => by
  obtain ⟨rfl, rfl, e, q⟩ := h
  exact call_isE c.1 hz hf pins s σ H xs us Q I r ⟨.ref S, .ref S, true, e, fun u h => h, c.2, q⟩
/-! ### methods -/
section
variable {P : Program} {w : World} {K : PySem.W.Frag} {mg : Str → Option Value} {base : Heap}
structure KnM (K : PySem.W.Frag) (m qual : Str) (st : Stmt) (ps : List Str) (C g : Addr) (gd : FuncData) : Prop where
  F : Fun K m qual st g gd
  b : Binds K gd ps []
  mt : Meth K C m g
structure KnI (K : PySem.W.Frag) (qual : Str) (st : Stmt) (ps : List Str) (C g : Addr) (gd : FuncData) : Prop where
  F : Fun K "__init__" qual st g gd
  b : Binds K gd ps []
  mkr : Mk K C g
structure CalM (CX : CXT) (P : Program) (w : World) (K : PySem.W.Frag) (mg : Str → Option Value) (base : Heap) (n : Nat) (m : Str) (ps : List Str) (sp : Sp) (C g : Addr) (gd : FuncData) : Prop where
  G : FnOk P w K mg base CX n g gd ps sp
  mt : Meth K C m g
  b : Binds K gd ps []
structure CalI (CX : CXT) (P : Program) (w : World) (K : PySem.W.Frag) (mg : Str → Option Value) (base : Heap) (n : Nat) (ps : List Str) (sp : Sp) (C g : Addr) (gd : FuncData) : Prop where
  G : FnOk P w K mg base CX n g gd ps sp
  mkr : Mk K C g
  b : Binds K gd ps []
theorem KnM.cal {CX : CXT} {n : Nat} {m qual : Str} {st : Stmt} {ps : List Str} {sp : Sp} {C g : Addr} {gd : FuncData} (k : KnM K m qual st ps C g gd) (G : FnOk P w K mg base CX n g gd ps sp) : CalM CX P w K mg base n m ps sp C g gd := ⟨G, k.mt, k.b⟩
theorem KnI.cal {CX : CXT} {n : Nat} {qual : Str} {st : Stmt} {ps : List Str} {sp : Sp} {C g : Addr} {gd : FuncData} (k : KnI K qual st ps C g gd) (G : FnOk P w K mg base CX n g gd ps sp) : CalI CX P w K mg base n ps sp C g gd := ⟨G, k.mkr, k.b⟩
end
section
variable {X : Cx} {CX : CXT} {k : Nat} {f C : Addr} {fd : FuncData} {ps : List Str} {sp : Sp} {E : L2.St → XK} {m : Str} {pos apos : Pos} {e o : Expr} {es : List Expr} {ta : TE} {t : TA}
def tMethE (C : Addr) (m : Str) (sp : Sp) (E : L2.St → XK) (ta : TE) (t : TA) : TE := fun σ H Q => ta σ H fun x H1 => ∃ a dx fs, x = .ref a ∧ H1 a = some (.ins C dx fs) ∧ fs.lookup m = none ∧ t σ H1 fun vs H2 => sp (x :: vs) H2 Q (E σ)
/-- o.m(e, ..), where what is raised is wished for at the caller's slots -/
theorem pe_methE {pl : Sem Bool} (he : PE X o ta) (c : Cls X.K C) (hm : Meth X.K C m f) (F : FnOk X.prog X.w X.K X.mg X.base CX k f fd ps sp) (hr : Room k X.A) (hb : Binds X.K fd ps []) (hx : ∀ σ, PassesAt CX X σ (E σ)) (ha : PA X (e :: es) t)
    (hst : starEach (e :: es) X.env = (false, eval e X.env) :: starEach es X.env := by rfl) (hpl : (backTo pos (starEach es X.env)).any (·.1) = false := by rfl)
    (ht : eval (.Call (.Attribute o m apos) (e :: es) [] pos) X.env = (do
      let ov ← eval o X.env
      standAt apos.atName
      let (f, first) ← holding [ov] (getMethod ov m pl)
      callWith pos f first (backTo pos (starEach (e :: es) X.env)) (backToKw pos (keywordEach [] X.env))) := by rfl) :
    PE X (.Call (.Attribute o m apos) (e :: es) [] pos) (tMethE C m sp E ta t) := by
  refine ⟨fun pins s σ H Q I h => ?_⟩
  refine PySem.W.methodCall_KW (pl := pl) (thn (he.run pins s σ H _ I h) fun u s1 ⟨x, H1, I1, rx, a, dx, fs, ex, ea, l, q⟩ => ?_) ht
  subst ex
  obtain rfl : u = Value.ref a := rx
  refine getmeth_ok I1 ea c hm l ?_
  refine PySem.W.callWith_K (first := [.ref a]) (h₀ := X.base) I.ok.mod.kin hm.kp (thn (ha.run pos pins s1 σ H1 _ I1 q) fun us s2 ⟨vs, H2, I2, r, q2⟩ => ⟨I2.kIn, ?_⟩) hst hpl
  exact run_fnS (us := .ref a :: us) (vs := .ref a :: vs) F hr hb (hx σ) I2 (.cons rfl r) q2
end
theorem passN0 {X : Cx} (σ : L2.St) : PassesAt (L2N.CX X.prog X.w) X σ (fun _ _ _ => False) := L2N.passAt (W := fun _ _ _ _ => False) takes0N σ
end Lt
namespace Lt
open PySem L2 TL
open C8 (pss_cut)
def topS (i : Nat) : Stmt := PySem.Challenge.pw_lenstree_k42_frames_and_records.main.body.getD i (.Pass ⟨0, 0, 0, 0⟩)
structure Z (mg : Str → Option Value) : Prop where
  abs : mg "abs" = none
  int : mg "int" = none
  len : mg "len" = none
  range : mg "range" = none
  tuple : mg "tuple" = none
  isinstance : mg "isinstance" = none
  bool : mg "bool" = none
  str : mg "str" = none
  list : mg "list" = none
  dict : mg "dict" = none
  sorted : mg "sorted" = none
  reversed : mg "reversed" = none
  ord : mg "ord" = none
  enumerate : mg "enumerate" = none
  c_NEGATIVE : ∃ t, mg "NEGATIVE" = some (Value.int 4 t)
  c_NUMBER_BYTES : ∃ t, mg "NUMBER_BYTES" = some (Value.int 4 t)
  c_NUMBER : ∃ t, mg "NUMBER" = some (Value.int 3 t)
  c_TEXT : ∃ t, mg "TEXT" = some (Value.int 5 t)
  c_LENGTH_BYTES : ∃ t, mg "LENGTH_BYTES" = some (Value.int 2 t)
  c_DICT : ∃ t, mg "DICT" = some (Value.int 8 t)
  c_NULL : ∃ t, mg "NULL" = some (Value.int 0 t)
  c_TRUE : ∃ t, mg "TRUE" = some (Value.int 2 t)
  c_FALSE : ∃ t, mg "FALSE" = some (Value.int 1 t)
  c_TUPLE : ∃ t, mg "TUPLE" = some (Value.int 6 t)
  c_LIST : ∃ t, mg "LIST" = some (Value.int 7 t)
  c_HEAD_BYTES : ∃ t, mg "HEAD_BYTES" = some (Value.int 4 t)
  c_PERCENT_CODE : ∃ t, mg "PERCENT_CODE" = some (Value.int 37 t)
  c_LAST_CODE : ∃ t, mg "LAST_CODE" = some (Value.int 126 t)
  c_FIRST_CODE : ∃ t, mg "FIRST_CODE" = some (Value.int 32 t)
  c_CHARACTERS : ∃ t, mg "CHARACTERS" = some (Value.str " !\"#$ &'()*+,-./0123456789:;<=>?@ABCDEFGHIJKLMNOPQRSTUVWXYZ[\\]^_`abcdefghijklmnopqrstuvwxyz{|}~" t)
abbrev s_law_tape : Stmt := topS 41
theorem sc_law_tape : FnScope ["script", "cell", "cells", "seed"] ["script"] (defScope s_law_tape) := ⟨rfl, rfl, rfl, by decide +kernel, rfl, by decide +kernel, by decide +kernel⟩
abbrev s_law_take : Stmt := topS 42
theorem sc_law_take : FnScope ["tape", "many", "drawn", "mixed"] ["tape", "many"] (defScope s_law_take) := ⟨rfl, rfl, rfl, by decide +kernel, rfl, by decide +kernel, by decide +kernel⟩
abbrev s_law_char : Stmt := topS 47
theorem sc_law_char : FnScope ["tape", "chars"] ["tape"] (defScope s_law_char) := ⟨rfl, rfl, rfl, by decide +kernel, rfl, by decide +kernel, by decide +kernel⟩
abbrev s_law_text : Stmt := topS 48
theorem sc_law_text : FnScope ["tape", "size", "k"] ["tape"] (defScope s_law_text) := ⟨rfl, rfl, rfl, by decide +kernel, rfl, by decide +kernel, by decide +kernel⟩
abbrev s_law_string : Stmt := topS 51
theorem sc_law_string : FnScope ["tape"] ["tape"] (defScope s_law_string) := ⟨rfl, rfl, rfl, by decide +kernel, rfl, by decide +kernel, by decide +kernel⟩
abbrev s_law_number : Stmt := topS 52
theorem sc_law_number : FnScope ["tape", "choice"] ["tape"] (defScope s_law_number) := ⟨rfl, rfl, rfl, by decide +kernel, rfl, by decide +kernel, by decide +kernel⟩
abbrev s_law_data : Stmt := topS 53
theorem sc_law_data : FnScope ["tape", "depth", "choice", "k", "table", "key"] ["tape", "depth"] (defScope s_law_data) := ⟨rfl, rfl, rfl, by decide +kernel, rfl, by decide +kernel, by decide +kernel⟩
abbrev s_law_bytes : Stmt := topS 54
theorem sc_law_bytes : FnScope ["number", "size", "result", "k"] ["number", "size"] (defScope s_law_bytes) := ⟨rfl, rfl, rfl, by decide +kernel, rfl, by decide +kernel, by decide +kernel⟩
abbrev s_law_codes : Stmt := topS 55
theorem sc_law_codes : FnScope ["text", "chars", "result", "char", "at"] ["text"] (defScope s_law_codes) := ⟨rfl, rfl, rfl, by decide +kernel, rfl, by decide +kernel, by decide +kernel⟩
abbrev s_law_pack : Stmt := topS 56
theorem sc_law_pack : FnScope ["data", "parts", "items", "tag", "key", "numbers", "item"] ["data"] (defScope s_law_pack) := ⟨rfl, rfl, rfl, by decide +kernel, rfl, by decide +kernel, by decide +kernel⟩
abbrev s_law_is_integer : Stmt := topS 43
theorem sc_law_is_integer : FnScope ["actual"] ["actual"] (defScope s_law_is_integer) := ⟨rfl, rfl, rfl, by decide +kernel, rfl, by decide +kernel, by decide +kernel⟩
abbrev s_law_same_items : Stmt := topS 44
theorem sc_law_same_items : FnScope ["actual", "expected", "k"] ["actual", "expected"] (defScope s_law_same_items) := ⟨rfl, rfl, rfl, by decide +kernel, rfl, by decide +kernel, by decide +kernel⟩
abbrev s_law_same : Stmt := topS 45
theorem sc_law_same : FnScope ["actual", "expected", "key"] ["actual", "expected"] (defScope s_law_same) := ⟨rfl, rfl, rfl, by decide +kernel, rfl, by decide +kernel, by decide +kernel⟩
abbrev s_number_bytes : Stmt := topS 21
theorem sc_number_bytes : FnScope ["number", "many", "found", "rest", "_"] ["number", "many"] (defScope s_number_bytes) := ⟨rfl, rfl, rfl, by decide +kernel, rfl, by decide +kernel, by decide +kernel⟩
abbrev s_packed_number : Stmt := topS 23
theorem sc_packed_number : FnScope ["number"] ["number"] (defScope s_packed_number) := ⟨rfl, rfl, rfl, by decide +kernel, rfl, by decide +kernel, by decide +kernel⟩
abbrev s_packed_text : Stmt := topS 24
theorem sc_packed_text : FnScope ["text", "character"] ["text"] (defScope s_packed_text) := ⟨rfl, rfl, rfl, by decide +kernel, rfl, by decide +kernel, by decide +kernel⟩
abbrev s_packed_items : Stmt := topS 25
theorem sc_packed_items : FnScope ["first", "items", "found", "item"] ["first", "items"] (defScope s_packed_items) := ⟨rfl, rfl, rfl, by decide +kernel, rfl, by decide +kernel, by decide +kernel⟩
abbrev s_packed_dict : Stmt := topS 26
theorem sc_packed_dict : FnScope ["table", "found", "key", "numbers", "texts"] ["table"] (defScope s_packed_dict) := ⟨rfl, rfl, rfl, by decide +kernel, rfl, by decide +kernel, by decide +kernel⟩
abbrev s_pack : Stmt := topS 27
theorem sc_pack : FnScope ["data"] ["data"] (defScope s_pack) := ⟨rfl, rfl, rfl, by decide +kernel, rfl, by decide +kernel, by decide +kernel⟩
abbrev s_frame : Stmt := topS 38
theorem sc_frame : FnScope ["record", "packed"] ["record"] (defScope s_frame) := ⟨rfl, rfl, rfl, by decide +kernel, rfl, by decide +kernel, by decide +kernel⟩
abbrev s_bytes_number : Stmt := topS 22
theorem sc_bytes_number : FnScope ["numbers", "result", "number"] ["numbers"] (defScope s_bytes_number) := ⟨rfl, rfl, rfl, by decide +kernel, rfl, by decide +kernel, by decide +kernel⟩
abbrev s_read_number : Stmt := topS 28
theorem sc_read_number : FnScope ["numbers", "at", "many"] ["numbers", "at", "many"] (defScope s_read_number) := ⟨rfl, rfl, rfl, by decide +kernel, rfl, by decide +kernel, by decide +kernel⟩
abbrev s_read_negative : Stmt := topS 29
theorem sc_read_negative : FnScope ["numbers", "at", "number"] ["numbers", "at"] (defScope s_read_negative) := ⟨rfl, rfl, rfl, by decide +kernel, rfl, by decide +kernel, by decide +kernel⟩
abbrev s_is_text_code : Stmt := topS 7
theorem sc_is_text_code : FnScope ["code"] ["code"] (defScope s_is_text_code) := ⟨rfl, rfl, rfl, by decide +kernel, rfl, by decide +kernel, by decide +kernel⟩
abbrev s_read_text : Stmt := topS 30
theorem sc_read_text : FnScope ["numbers", "at", "length", "start", "codes", "place", "code"] ["numbers", "at"] (defScope s_read_text) := ⟨rfl, rfl, rfl, by decide +kernel, rfl, by decide +kernel, by decide +kernel⟩
abbrev s_may_follow : Stmt := topS 32
theorem sc_may_follow : FnScope ["key", "before"] ["key", "before"] (defScope s_may_follow) := ⟨rfl, rfl, rfl, by decide +kernel, rfl, by decide +kernel, by decide +kernel⟩
abbrev s_read_items : Stmt := topS 31
theorem sc_read_items : FnScope ["numbers", "at", "many", "place", "items", "_", "item"] ["numbers", "at"] (defScope s_read_items) := ⟨rfl, rfl, rfl, by decide +kernel, rfl, by decide +kernel, by decide +kernel⟩
abbrev s_read_dict : Stmt := topS 33
theorem sc_read_dict : FnScope ["numbers", "at", "many", "place", "table", "before", "_", "start", "key", "item"] ["numbers", "at"] (defScope s_read_dict) := ⟨rfl, rfl, rfl, by decide +kernel, rfl, by decide +kernel, by decide +kernel⟩
abbrev s_read_data : Stmt := topS 34
theorem sc_read_data : FnScope ["numbers", "at", "first", "items", "place"] ["numbers", "at"] (defScope s_read_data) := ⟨rfl, rfl, rfl, by decide +kernel, rfl, by decide +kernel, by decide +kernel⟩
abbrev s_unpack : Stmt := topS 35
theorem sc_unpack : FnScope ["numbers", "data", "end"] ["numbers"] (defScope s_unpack) := ⟨rfl, rfl, rfl, by decide +kernel, rfl, by decide +kernel, by decide +kernel⟩
abbrev s_records_of : Stmt := topS 39
theorem sc_records_of : FnScope ["numbers", "found", "start", "end"] ["numbers"] (defScope s_records_of) := ⟨rfl, rfl, rfl, by decide +kernel, rfl, by decide +kernel, by decide +kernel⟩
abbrev s_law : Stmt := topS 57
theorem sc_law : FnScope ["script", "tape", "records", "numbers", "ends", "record", "packed", "expected", "cuts", "cut", "part", "k"] ["script"] (defScope s_law) := ⟨rfl, rfl, rfl, by decide +kernel, rfl, by decide +kernel, by decide +kernel⟩
end Lt
namespace Lt
open PySem L2 TL
open C8 (pss_cut)
def dF_law_tape : He.FnD := ⟨("_law_tape", none), "_law_tape", "_law_tape", defArgs s_law_tape, defBody s_law_tape, defScope s_law_tape⟩
def dF_law_take : He.FnD := ⟨("_law_take", none), "_law_take", "_law_take", defArgs s_law_take, defBody s_law_take, defScope s_law_take⟩
def dF_law_char : He.FnD := ⟨("_law_char", none), "_law_char", "_law_char", defArgs s_law_char, defBody s_law_char, defScope s_law_char⟩
def dF_law_text : He.FnD := ⟨("_law_text", none), "_law_text", "_law_text", defArgs s_law_text, defBody s_law_text, defScope s_law_text⟩
def dF_law_string : He.FnD := ⟨("_law_string", none), "_law_string", "_law_string", defArgs s_law_string, defBody s_law_string, defScope s_law_string⟩
def dF_law_number : He.FnD := ⟨("_law_number", none), "_law_number", "_law_number", defArgs s_law_number, defBody s_law_number, defScope s_law_number⟩
def dF_law_data : He.FnD := ⟨("_law_data", none), "_law_data", "_law_data", defArgs s_law_data, defBody s_law_data, defScope s_law_data⟩
def dF_law_bytes : He.FnD := ⟨("_law_bytes", none), "_law_bytes", "_law_bytes", defArgs s_law_bytes, defBody s_law_bytes, defScope s_law_bytes⟩
def dF_law_codes : He.FnD := ⟨("_law_codes", none), "_law_codes", "_law_codes", defArgs s_law_codes, defBody s_law_codes, defScope s_law_codes⟩
def dF_law_pack : He.FnD := ⟨("_law_pack", none), "_law_pack", "_law_pack", defArgs s_law_pack, defBody s_law_pack, defScope s_law_pack⟩
def dF_law_is_integer : He.FnD := ⟨("_law_is_integer", none), "_law_is_integer", "_law_is_integer", defArgs s_law_is_integer, defBody s_law_is_integer, defScope s_law_is_integer⟩
def dF_law_same_items : He.FnD := ⟨("_law_same_items", none), "_law_same_items", "_law_same_items", defArgs s_law_same_items, defBody s_law_same_items, defScope s_law_same_items⟩
def dF_law_same : He.FnD := ⟨("_law_same", none), "_law_same", "_law_same", defArgs s_law_same, defBody s_law_same, defScope s_law_same⟩
def dF_number_bytes : He.FnD := ⟨("number_bytes", none), "number_bytes", "number_bytes", defArgs s_number_bytes, defBody s_number_bytes, defScope s_number_bytes⟩
def dF_packed_number : He.FnD := ⟨("packed_number", none), "packed_number", "packed_number", defArgs s_packed_number, defBody s_packed_number, defScope s_packed_number⟩
def dF_packed_text : He.FnD := ⟨("packed_text", none), "packed_text", "packed_text", defArgs s_packed_text, defBody s_packed_text, defScope s_packed_text⟩
def dF_packed_items : He.FnD := ⟨("packed_items", none), "packed_items", "packed_items", defArgs s_packed_items, defBody s_packed_items, defScope s_packed_items⟩
def dF_packed_dict : He.FnD := ⟨("packed_dict", none), "packed_dict", "packed_dict", defArgs s_packed_dict, defBody s_packed_dict, defScope s_packed_dict⟩
def dF_pack : He.FnD := ⟨("pack", none), "pack", "pack", defArgs s_pack, defBody s_pack, defScope s_pack⟩
def dF_frame : He.FnD := ⟨("frame", none), "frame", "frame", defArgs s_frame, defBody s_frame, defScope s_frame⟩
def dF_bytes_number : He.FnD := ⟨("bytes_number", none), "bytes_number", "bytes_number", defArgs s_bytes_number, defBody s_bytes_number, defScope s_bytes_number⟩
def dF_read_number : He.FnD := ⟨("read_number", none), "read_number", "read_number", defArgs s_read_number, defBody s_read_number, defScope s_read_number⟩
def dF_read_negative : He.FnD := ⟨("read_negative", none), "read_negative", "read_negative", defArgs s_read_negative, defBody s_read_negative, defScope s_read_negative⟩
def dF_is_text_code : He.FnD := ⟨("is_text_code", none), "is_text_code", "is_text_code", defArgs s_is_text_code, defBody s_is_text_code, defScope s_is_text_code⟩
def dF_read_text : He.FnD := ⟨("read_text", none), "read_text", "read_text", defArgs s_read_text, defBody s_read_text, defScope s_read_text⟩
def dF_may_follow : He.FnD := ⟨("may_follow", none), "may_follow", "may_follow", defArgs s_may_follow, defBody s_may_follow, defScope s_may_follow⟩
def dF_read_items : He.FnD := ⟨("read_items", none), "read_items", "read_items", defArgs s_read_items, defBody s_read_items, defScope s_read_items⟩
def dF_read_dict : He.FnD := ⟨("read_dict", none), "read_dict", "read_dict", defArgs s_read_dict, defBody s_read_dict, defScope s_read_dict⟩
def dF_read_data : He.FnD := ⟨("read_data", none), "read_data", "read_data", defArgs s_read_data, defBody s_read_data, defScope s_read_data⟩
def dF_unpack : He.FnD := ⟨("unpack", none), "unpack", "unpack", defArgs s_unpack, defBody s_unpack, defScope s_unpack⟩
def dF_records_of : He.FnD := ⟨("records_of", none), "records_of", "records_of", defArgs s_records_of, defBody s_records_of, defScope s_records_of⟩
def dF_law : He.FnD := ⟨("law", none), "law", "law", defArgs s_law, defBody s_law, defScope s_law⟩
def fnL : List He.FnD := [dF_law_tape, dF_law_take, dF_law_char, dF_law_text, dF_law_string, dF_law_number, dF_law_data, dF_law_bytes, dF_law_codes, dF_law_pack, dF_law_is_integer, dF_law_same_items, dF_law_same, dF_number_bytes, dF_packed_number, dF_packed_text, dF_packed_items, dF_packed_dict, dF_pack, dF_frame, dF_bytes_number, dF_read_number, dF_read_negative, dF_is_text_code, dF_read_text, dF_may_follow, dF_read_items, dF_read_dict, dF_read_data, dF_unpack, dF_records_of, dF_law]
def faL0 : List He.Fa := [.glo "_law_tape", .glo "_law_take", .glo "_law_char", .glo "_law_text", .glo "_law_string", .glo "_law_number", .glo "_law_data", .glo "_law_bytes", .glo "_law_codes", .glo "_law_pack", .glo "_law_is_integer", .glo "_law_same_items", .glo "_law_same", .glo "number_bytes", .glo "packed_number", .glo "packed_text", .glo "packed_items", .glo "packed_dict", .glo "pack", .glo "frame", .glo "bytes_number", .glo "read_number", .glo "read_negative", .glo "is_text_code", .glo "read_text", .glo "may_follow", .glo "read_items", .glo "read_dict", .glo "read_data", .glo "unpack", .glo "records_of", .glo "law", .keep "_law_tape", .keep "_law_take", .keep "_law_char", .keep "_law_text", .keep "_law_string", .keep "_law_number", .keep "_law_data", .keep "_law_bytes"]
def faL1 : List He.Fa := [.keep "_law_codes", .keep "_law_pack", .keep "_law_is_integer", .keep "_law_same_items", .keep "_law_same", .keep "number_bytes", .keep "packed_number", .keep "packed_text", .keep "packed_items", .keep "packed_dict", .keep "pack", .keep "frame", .keep "bytes_number", .keep "read_number", .keep "read_negative", .keep "is_text_code", .keep "read_text", .keep "may_follow", .keep "read_items", .keep "read_dict", .keep "read_data", .keep "unpack", .keep "records_of", .keep "law", .free "abs", .free "int", .free "len", .free "range", .free "tuple", .free "isinstance", .free "bool", .free "str", .free "list", .free "dict", .free "sorted", .free "reversed", .free "ord", .free "enumerate", .int "NEGATIVE" 4, .int "NUMBER_BYTES" 4]
def faL2 : List He.Fa := [.int "NUMBER" 3, .int "TEXT" 5, .int "LENGTH_BYTES" 2, .int "DICT" 8, .int "NULL" 0, .int "TRUE" 2, .int "FALSE" 1, .int "TUPLE" 6, .int "LIST" 7, .int "HEAD_BYTES" 4, .int "PERCENT_CODE" 37, .int "LAST_CODE" 126, .int "FIRST_CODE" 32, .str "CHARACTERS" " !\"#$ &'()*+,-./0123456789:;<=>?@ABCDEFGHIJKLMNOPQRSTUVWXYZ[\\]^_`abcdefghijklmnopqrstuvwxyz{|}~"]
def faL : List He.Fa := faL0 ++ (faL1 ++ (faL2
))
def exL (K : PySem.W.Frag) : Bool := true
abbrev RR : PySem.W.OpenRow := PySem.W.OpenLaw.row PySem.Challenge.rw_lenstree_k42_frames_and_records
def namesL0 : List PySem.Str := [PySem.Str.ofString "_law_tape", PySem.Str.ofString "_law_take", PySem.Str.ofString "_law_char", PySem.Str.ofString "_law_text", PySem.Str.ofString "_law_string", PySem.Str.ofString "_law_number", PySem.Str.ofString "_law_data", PySem.Str.ofString "_law_bytes", PySem.Str.ofString "_law_codes", PySem.Str.ofString "_law_pack", PySem.Str.ofString "_law_is_integer", PySem.Str.ofString "_law_same_items", PySem.Str.ofString "_law_same", PySem.Str.ofString "number_bytes", PySem.Str.ofString "packed_number", PySem.Str.ofString "packed_text", PySem.Str.ofString "packed_items", PySem.Str.ofString "packed_dict", PySem.Str.ofString "pack", PySem.Str.ofString "frame", PySem.Str.ofString "bytes_number", PySem.Str.ofString "read_number", PySem.Str.ofString "read_negative", PySem.Str.ofString "is_text_code", PySem.Str.ofString "read_text", PySem.Str.ofString "may_follow", PySem.Str.ofString "read_items", PySem.Str.ofString "read_dict", PySem.Str.ofString "read_data", PySem.Str.ofString "unpack", PySem.Str.ofString "records_of", PySem.Str.ofString "law"]
def adsL : (Addr → Option Obj) → List Addr := asL (namesL0) []
abbrev hkL : PySem.W.Hook := hookL adsL faL fnL exL
def obN (s : PySem.W.SharedT) : He.Al × Bool := obL adsL faL fnL exL (HandSHeadRun.getT s)
theorem obN_eq (s : PySem.W.SharedT) : obN s = hkL.obs s.abs := obL_eq (HandSHeadRun.getT_eq s)
def looseL0 : List PySem.Str := [PySem.Str.ofString "StoreError", PySem.Str.ofString "RecordError", PySem.Str.ofString "FIRST_CODE", PySem.Str.ofString "LAST_CODE", PySem.Str.ofString "PERCENT_CODE", PySem.Str.ofString "is_text_code", PySem.Str.ofString "NULL", PySem.Str.ofString "FALSE", PySem.Str.ofString "TRUE", PySem.Str.ofString "NUMBER", PySem.Str.ofString "NEGATIVE", PySem.Str.ofString "TEXT", PySem.Str.ofString "TUPLE", PySem.Str.ofString "LIST", PySem.Str.ofString "DICT", PySem.Str.ofString "NUMBER_BYTES", PySem.Str.ofString "LENGTH_BYTES", PySem.Str.ofString "CHARACTERS", PySem.Str.ofString "number_bytes", PySem.Str.ofString "bytes_number", PySem.Str.ofString "packed_number", PySem.Str.ofString "packed_text", PySem.Str.ofString "packed_items", PySem.Str.ofString "packed_dict", PySem.Str.ofString "pack", PySem.Str.ofString "read_number", PySem.Str.ofString "read_negative", PySem.Str.ofString "read_text", PySem.Str.ofString "read_items", PySem.Str.ofString "may_follow", PySem.Str.ofString "read_dict", PySem.Str.ofString "read_data", PySem.Str.ofString "unpack", PySem.Str.ofString "HEAD_BYTES", PySem.Str.ofString "frame", PySem.Str.ofString "records_of", PySem.Str.ofString "_law_tape", PySem.Str.ofString "_law_take", PySem.Str.ofString "_law_is_integer", PySem.Str.ofString "_law_same_items"]
def looseL1 : List PySem.Str := [PySem.Str.ofString "_law_same", PySem.Str.ofString "_law_copy", PySem.Str.ofString "_law_char", PySem.Str.ofString "_law_text", PySem.Str.ofString "_law_integer", PySem.Str.ofString "_law_value", PySem.Str.ofString "_law_string", PySem.Str.ofString "_law_number", PySem.Str.ofString "_law_data", PySem.Str.ofString "_law_bytes", PySem.Str.ofString "_law_codes", PySem.Str.ofString "_law_pack"]
def looseL : List PySem.Str := looseL0 ++ (looseL1)
theorem run_false (w : World) : HandSHeadRun.RunEq RR (PySem.W.view RR.prog [57]) hkL obN 20000 looseL (w.withFollow "special-get-raises" false) := by
  intro os
  kernel_rfl
theorem run_true (w : World) : HandSHeadRun.RunEq RR (PySem.W.view RR.prog [57]) hkL obN 20000 looseL (w.withFollow "special-get-raises" true) := by
  intro os
  kernel_rfl
theorem runL (w : World) : HandSHeadRun.RunEq RR (PySem.W.view RR.prog [57]) hkL obN 20000 looseL w := PySem.W.byRow2 "special-get-raises" (P := fun w => HandSHeadRun.RunEq RR (PySem.W.view RR.prog [57]) hkL obN 20000 looseL w) run_false run_true w
end Lt
namespace Lt
open PySem L2 TL
open C8 (pss_cut)
section
variable {P : Program} {w : World} {K : PySem.W.Frag} {mg : Str → Option Value} {base : Heap}
theorem ok_law_tape {f : Addr} {fd : FuncData} (k : Kn K mg "_law_tape" s_law_tape ["script"] f fd) (z : Z mg) :
    Cal P w K mg base 1 "_law_tape" ["script"] (spTape K) f fd := k.cal (by
  refine k.F.ok sc_law_tape (fun vs H Q E h => ?_) (fun cdv A outer s H vs Q E hr h => ?_)
  · obtain ⟨a, ns, rfl, _⟩ := h; rfl
  · obtain ⟨a, ns, rfl, hS, h63, q⟩ := h
    have hu := hu_of hr
    refine ⟨_, (pss_cons (ps_setLc (i := 2) (own := [("cell", 1)]) (g := gName 1) (tt := tYes) (by rfl) sc_law_tape.nd rfl rfl (sw_true rfl rfl rfl (by decide +kernel)) (pi_list (pv 0)) (blkOk_by (own := [("cell", 1)]) (N := ["script", "cell", "cells", "seed"]) (sc := defScope s_law_tape) (by decide +kernel)) (fun _ _ _ _ _ => pg_name (i := 1) sc_law_tape.nd rfl (Or.inl rfl)) (fun _ _ _ _ _ => pts_nil) (fun _ _ _ _ _ => (pe_callB call_abs (by rfl) z.abs (by decide +kernel) (pa_cons (pe_callTy call_int1 (by rfl) z.int (by decide +kernel) (pa_cons (pv 1) pa_nil)) pa_nil))))
        (pss_cons (ps_set (i := 3) sc_law_tape.nd rfl (Or.inl rfl) pe_int)
        (pss_cons (ps_for PassesOwn.never rfl (pi_list (pv 2)) (pg_name (i := 1) sc_law_tape.nd rfl (Or.inl rfl))
        (pss_one (ps_set (i := 3) sc_law_tape.nd rfl (Or.inl rfl) (pe_op op_mod (pe_callTy call_int1 (by rfl) z.int (by decide +kernel) (pa_cons (pe_op op_add (pe_op op_mul (pv 3) pe_int) (pv 1)) pa_nil)) pe_int))))
        (pss_one (ps_ret (pe_disp (pps_cons pe_str (pv 2) (pps_cons pe_str pe_int (pps_cons pe_str pe_int (pps_cons pe_str (pv 3) (pps_cons pe_str pe_int pps_nil))))) (by rfl) (by rfl) (fun z => by cases z) (by decide))))))), ?_⟩
    refine ⟨_, rfl, a, rfl, ⟨_, hS⟩, fun D hD => lc_list (K := K) (a := a) (xs := ns.map V.int) (fun i H' => ∃ cs : List Int, H' D = some (.lst (cs.map V.int)) ∧ cs.length = i ∧ (∀ x ∈ cs, (0 : Int) ≤ x) ∧ Same H H') ⟨[], upd_same, rfl, (by intro x hx; cases hx), same_new hD _⟩ (fun i H' _ ⟨_, _, _, _, s1⟩ => s1.seq hS) ?_ ?_⟩
    · rintro i x H1 hi ⟨cs, hc, hl, hn, s1⟩
      obtain ⟨z, rfl, hz⟩ := int_at hi
      have hi63 : i < ns.length := (List.getElem?_eq_some_iff.mp hz).1
      refine ⟨rfl, _, rfl, .inl ⟨z, rfl, z, rfl, _, hc, (by rw [List.length_map]; exact small1000 (by omega)), cs ++ [if z < 0 then -z else z], ?_, by simp [hl], ?_, same_upd hD _ s1⟩⟩
      · rw [upd_same, List.map_append]; rfl
      · intro y hy
        rcases List.mem_append.mp hy with hy | hy
        · exact hn y hy
        · rw [List.mem_singleton.mp hy]
          by_cases h0 : z < 0
          · rw [if_pos h0]; omega
          · rw [if_neg h0]; omega
    · rintro H1 ⟨cs, hc, hl, hn, s1⟩
      refine ⟨_, rfl, D, rfl, ⟨_, SqL.of hc⟩, for_list (K := K) (a := D) (xs := cs.map V.int) (fun i σ H2 => ∃ v s, σ = [some (.ref a), v, some (.ref D), some (.int s)] ∧ H2 = H1) ⟨none, 7, rfl, rfl⟩ (fun i σ H2 _ ⟨_, _, _, e⟩ => by rw [e]; exact SqL.of hc) ?_ ?_⟩
      · rintro i x σ H2 hi ⟨v, s, rfl, rfl⟩
        obtain ⟨z, rfl, hz⟩ := int_at hi
        refine ⟨_, rfl, _, _, rfl, rfl, .inr ⟨by decide, by decide⟩, _, rfl, _, _, rfl, rfl, .inl ⟨_, rfl, _, _, rfl, rfl, (by show (0 : Int) < 2147483647; decide), ?_⟩⟩
        exact ⟨_, _, rfl, rfl⟩
      · rintro σ H2 ⟨v, s, rfl, rfl⟩
        refine fun p hp => ⟨_, rfl, _, rfl, upd_same, tk D 0 0 s 0, rfl, (by show 5 ≤ 15; decide), ?_⟩
        have hp0 : H p = none := s1.free hp
        refine q p D cs _ ⟨⟨0, 0, s, 0, by rw [upd_same, merge_tk], Int.le_refl _, Int.le_refl _⟩, ?_, hn⟩ (same_upd hp0 _ (same_upd hp0 _ s1)) hp0
        rw [upd_ne (ne_of_none hc hp), upd_ne (ne_of_none hc hp)]
        exact hc)
theorem ok_law_take {f : Addr} {fd : FuncData} (k : Kn K mg "_law_take" s_law_take ["tape", "many"] f fd) (z : Z mg) :
    Cal P w K mg base 1 "_law_take" ["tape", "many"] (spTake) f fd := k.cal (by
  refine k.F.ok sc_law_take (fun vs H Q E h => ?_) (fun cdv A outer s H vs Q E hr h => ?_)
  · obtain ⟨t, c, cs, many, rfl, _⟩ := h; rfl
  · obtain ⟨t, c, cs, many, rfl, T, h0, h9, q⟩ := h
    have hu := hu_of hr
    have cne : c ≠ t := T.ne
    obtain ⟨⟨a, l, s0, m, hd, ha, hl⟩, hc, hn⟩ := id T
    refine ⟨_, (pss_cut (ps_if (PW.pt (pw_and (pt_cmpR op_eq (pe_dget hu (pv 0) pe_str (fun _ _ => rfl)) pe_int (nomark _)) (pw_and1 (pt_cmpR op_lt (pe_dget hu (pv 0) pe_str (fun _ _ => rfl)) (pe_callB call_len_seq (by rfl) z.len (by decide +kernel) (pa_cons (pe_dget hu (pv 0) pe_str (fun _ _ => rfl)) pa_nil)) (nomark _))))) (pss_cons (ps_dput hu (pv 0) pe_str (pe_ix ix_list (pe_dget hu (pv 0) pe_str (fun _ _ => rfl)) (pe_dget hu (pv 0) pe_str (fun _ _ => rfl)) (fun _ _ => rfl)) rfl)
        (pss_one (ps_dput hu (pv 0) pe_str (pe_op op_add (pe_dget hu (pv 0) pe_str (fun _ _ => rfl)) pe_int) rfl))) pss_nil)
        (pss_cons (ps_if (pt_cmpR op_gt (pe_dget hu (pv 0) pe_str (fun _ _ => rfl)) pe_int (nomark _)) (pss_cons (ps_set (i := 2) sc_law_take.nd rfl (Or.inl rfl) (pe_op op_mod (pe_callTy call_int1 (by rfl) z.int (by decide +kernel) (pa_cons (pe_dget hu (pv 0) pe_str (fun _ _ => rfl)) pa_nil)) (pv 1)))
        (pss_cons (ps_dput hu (pv 0) pe_str (pe_op op_fdivW (pe_dget hu (pv 0) pe_str (fun _ _ => rfl)) (pv 1)) rfl)
        (pss_one (ps_ret (pv 2))))) pss_nil)
        (pss_cons (ps_dput hu (pv 0) pe_str (pe_op op_add (pe_dget hu (pv 0) pe_str (fun _ _ => rfl)) pe_int) rfl)
        (pss_cons (ps_set (i := 3) sc_law_take.nd rfl (Or.inl rfl) (pe_op op_mod (pe_callTy call_int1 (by rfl) z.int (by decide +kernel) (pa_cons (pe_op op_add (pe_op op_mul (pe_dget hu (pv 0) pe_str (fun _ _ => rfl)) pe_int) (pe_op op_mul (pe_dget hu (pv 0) pe_str (fun _ _ => rfl)) pe_int)) pa_nil)) pe_int))
        (pss_cons (ps_set (i := 3) sc_law_take.nd rfl (Or.inl rfl) (pe_op op_mod (pe_callTy call_int1 (by rfl) z.int (by decide +kernel) (pa_cons (pe_op op_add (pe_op op_add (pe_op op_mul (pv 3) (pv 3)) (pe_op op_mul (pe_dget hu (pv 0) pe_str (fun _ _ => rfl)) pe_int)) pe_int) pa_nil)) pe_int))
        (pss_one (ps_ret (pe_op op_mod (pe_callTy call_int1 (by rfl) z.int (by decide +kernel) (pa_cons (pv 3) pa_nil)) (pv 1))))))))), ?_⟩
    refine ⟨fun σ' H' => ∃ a l m : Int, σ' = [some (.ref t), some (.int many), none, none] ∧ H' t = some (.dK (tk c a l s0 m)) ∧ 0 ≤ a ∧ 0 ≤ l ∧ SameX t H H', ?_, ?_⟩
    · refine ⟨_, rfl, t, .int l, rfl, d_left hd, rfl, _, rfl, ?_⟩
      refine ite2 (fun e0 => ?_) (fun e0 => ?_)
      · refine ⟨_, rfl, t, .int a, rfl, d_at hd, _, rfl, t, .ref c, rfl, d_cells hd, c, _, rfl, .inl (SqL.of hc), _, _, rfl, rfl, _, rfl, ?_⟩
        refine ite2 (fun e1 => ?_) (fun e1 => ?_)
        · have e2 : a < (((cs.map V.int).length : Nat) : Int) := of_decide_eq_true e1
          rw [List.length_map] at e2
          have hk : a.toNat < cs.length := by omega
          have hat : atI (cs.map V.int) a = some (.int cs[a.toNat]) := at_of (j := a.toNat) (by omega) (by rw [List.getElem?_map, List.getElem?_eq_getElem hk]; rfl)
          have hx : 0 ≤ cs[a.toNat] := hn _ (List.getElem_mem hk)
          refine ⟨_, rfl, t, .ref c, rfl, d_cells hd, _, rfl, t, .int a, rfl, d_at hd, c, _, a, _, rfl, rfl, SqL.of hc, hat, _, rfl, t, _, rfl, p_left hd _, ?_⟩
          refine ⟨_, rfl, t, .int a, rfl, d_at upd_same, _, _, rfl, rfl, _, rfl, t, _, rfl, p_at upd_same _, ?_⟩
          exact ⟨a + 1, _, m, rfl, upd_same, by omega, hx, (SameX.upd _).trans (SameX.upd _)⟩
        · exact ⟨a, l, m, rfl, hd, ha, hl, SameX.refl _ _⟩
      · exact ⟨a, l, m, rfl, hd, ha, hl, SameX.refl _ _⟩
    · rintro σ1 H1 ⟨a, l, m, rfl, hd, ha, hl, S1⟩
      have hc1 : H1 c = some (.lst (cs.map V.int)) := S1 _ _ hc cne
      refine ⟨_, rfl, t, .int l, rfl, d_left hd, _, _, rfl, rfl, _, rfl, ?_⟩
      refine ite2 (fun e0 => ?_) (fun e0 => ?_)
      · refine ⟨_, rfl, t, .int l, rfl, d_left hd, .inl ⟨_, rfl, _, rfl, _, _, rfl, rfl, h0, ?_⟩⟩
        refine ⟨_, rfl, t, .int l, rfl, d_left hd, _, rfl, _, _, rfl, rfl, wide_div h0 h9 (by decide) (by decide), _, rfl, t, _, rfl, p_left hd _, ?_⟩
        refine ⟨_, rfl, ?_⟩
        refine q _ _ (Int.emod_nonneg _ (by omega)) (Int.emod_lt_of_pos _ h0) ⟨⟨a, _, s0, m, upd_same, ha, Int.ediv_nonneg hl (by omega)⟩, by rw [upd_ne cne]; exact hc1, hn⟩ (S1.trans (SameX.upd _))
      · refine ⟨_, rfl, t, .int m, rfl, d_salt hd, _, _, rfl, rfl, _, rfl, t, _, rfl, p_salt hd _, ?_⟩
        have hd2 : upd H1 t (.dK (tk c a l s0 (m + 1))) t = some (.dK (tk c a l s0 (m + 1))) := upd_same
        refine ⟨_, rfl, t, .int s0, rfl, d_seed hd2, _, _, rfl, rfl, .inr ⟨by decide, by decide⟩, _, rfl, t, .int _, rfl, d_salt hd2, _, _, rfl, rfl, .inr ⟨by decide, by decide⟩, _, _, rfl, rfl, .inl ⟨_, rfl, _, _, rfl, rfl, (by show (0 : Int) < 2147483647; decide), ?_⟩⟩
        generalize hmx : (s0 * 48271 + (m + 1) * 69621) % 2147483647 = mx
        have b1 : 0 ≤ mx := by rw [← hmx]; exact Int.emod_nonneg _ (by decide)
        have b2 : mx < 2147483647 := by rw [← hmx]; exact Int.emod_lt_of_pos _ (by decide)
        refine ⟨_, rfl, _, rfl, _, _, rfl, rfl, .inl ⟨by omega, by omega⟩, _, rfl, t, .int _, rfl, d_salt hd2, _, _, rfl, rfl, .inr ⟨by decide, by decide⟩, _, _, rfl, rfl, _, _, rfl, rfl, .inl ⟨_, rfl, _, _, rfl, rfl, (by show (0 : Int) < 2147483399; decide), ?_⟩⟩
        refine ⟨_, rfl, .inl ⟨_, rfl, _, rfl, _, _, rfl, rfl, h0, ?_⟩⟩
        exact q _ _ (Int.emod_nonneg _ (by omega)) (Int.emod_lt_of_pos _ h0) ⟨⟨a, l, s0, m + 1, hd2, ha, hl⟩, by rw [upd_ne cne]; exact hc1, hn⟩ (S1.trans (SameX.upd _)))

theorem chars_len : (((" !\"#$&'()*+,-./0123456789:;<=>?@ABCDEFGHIJKLMNOPQRSTUVWXYZ[\\]^" : Str) ++ ("_`abcdefghijklmnopqrstuvwxyz{|}~" : Str)).cps.toList).length = 94 := by decide +kernel
theorem chars_ok : ∀ c ∈ ((" !\"#$&'()*+,-./0123456789:;<=>?@ABCDEFGHIJKLMNOPQRSTUVWXYZ[\\]^" : Str) ++ ("_`abcdefghijklmnopqrstuvwxyz{|}~" : Str)).cps.toList, chOk c := by decide +kernel
theorem few_len : ("ab -07" : Str).cps.toList.length = 6 := by decide +kernel
theorem few_ok : ∀ c ∈ ("ab -07" : Str).cps.toList, chOk c := by decide +kernel
theorem ok_law_char {f : Addr} {fd : FuncData} (k : Kn K mg "_law_char" s_law_char ["tape"] f fd) (z : Z mg)
    {g_law_take : Addr} {gd_law_take : FuncData} (c_law_take : Cal P w K mg base 1 "_law_take" ["tape", "many"] (spTake) g_law_take gd_law_take) :
    Cal P w K mg base 2 "_law_char" ["tape"] (spDraw isChar) f fd := k.cal (by
  refine k.F.ok sc_law_char (fun vs H Q E h => ?_) (fun cdv A outer s H vs Q E hr h => ?_)
  · obtain ⟨t, c, cs, rfl, _⟩ := h; rfl
  · obtain ⟨t, c, cs, rfl, T, q⟩ := h
    refine ⟨_, (pss_cons (ps_set (i := 1) sc_law_char.nd rfl (Or.inl rfl) pe_str)
        (pss_cons (ps_set (i := 1) sc_law_char.nd rfl (Or.inl rfl) (pe_op op_add_str (pv 1) pe_str))
        (pss_cons (ps_if (pt_cmpR op_eq (pe_call c_law_take.G (hr.mono (by decide)) (by rfl) c_law_take.m c_law_take.kp c_law_take.b .nil pass0 (pa_cons (pv 0) (pa_cons pe_int pa_nil))) pe_int (nomark _)) (pss_one (ps_ret (pe_ix ix_str (pv 1) (pe_call c_law_take.G (hr.mono (by decide)) (by rfl) c_law_take.m c_law_take.kp c_law_take.b .nil pass0 (pa_cons (pv 0) (pa_cons pe_int pa_nil))) (fun _ _ => rfl)))) pss_nil)
        (pss_one (ps_ret (pe_ix ix_str pe_str (pe_call c_law_take.G (hr.mono (by decide)) (by rfl) c_law_take.m c_law_take.kp c_law_take.b .nil pass0 (pa_cons (pv 0) (pa_cons pe_int pa_nil))) (fun _ _ => rfl))))))), ?_⟩
    refine ⟨_, rfl, _, _, rfl, rfl, (by decide +kernel), ?_⟩
    refine ⟨_, rfl, t, c, cs, 3, rfl, T, by decide, by decide +kernel, fun d H1 d0 d1 T1 s1 => ⟨rfl, _, rfl, ?_⟩⟩
    refine ite2 (fun _ => ?_) (fun _ => ?_)
    · refine ⟨_, rfl, _, rfl, t, c, cs, 94, rfl, T1, by decide, by decide +kernel, fun e H2 e0 e1 T2 s2 => ?_⟩
      obtain ⟨ch, h1, h2⟩ := at_in (xs := ((" !\"#$&'()*+,-./0123456789:;<=>?@ABCDEFGHIJKLMNOPQRSTUVWXYZ[\\]^" : Str) ++ ("_`abcdefghijklmnopqrstuvwxyz{|}~" : Str)).cps.toList) e0 (by rw [chars_len]; exact e1)
      exact ⟨_, _, _, rfl, rfl, (by decide +kernel), h1, q _ H2 ⟨ch, chars_ok _ h2, rfl⟩ T2 (s1.trans s2)⟩
    · refine ⟨_, rfl, t, c, cs, 6, rfl, T1, by decide, by decide +kernel, fun e H2 e0 e1 T2 s2 => ?_⟩
      obtain ⟨ch, h1, h2⟩ := at_in (xs := ("ab -07" : Str).cps.toList) e0 (by rw [few_len]; exact e1)
      exact ⟨_, _, _, rfl, rfl, (by decide +kernel), h1, q _ H2 ⟨ch, few_ok _ h2, rfl⟩ T2 (s1.trans s2)⟩)
theorem ok_law_text {f : Addr} {fd : FuncData} (k : Kn K mg "_law_text" s_law_text ["tape"] f fd) (z : Z mg)
    {g_law_take : Addr} {gd_law_take : FuncData} (c_law_take : Cal P w K mg base 1 "_law_take" ["tape", "many"] (spTake) g_law_take gd_law_take)
    {g_law_char : Addr} {gd_law_char : FuncData} (c_law_char : Cal P w K mg base 2 "_law_char" ["tape"] (spDraw isChar) g_law_char gd_law_char) :
    Cal P w K mg base 3 "_law_text" ["tape"] (spDraw (isText 30)) f fd := k.cal (by
  refine k.F.ok sc_law_text (fun vs H Q E h => ?_) (fun cdv A outer s H vs Q E hr h => ?_)
  · obtain ⟨t, c, cs, rfl, _⟩ := h; rfl
  · obtain ⟨t, c, cs, rfl, T, q⟩ := h
    have ht : ∃ o, H t = some o := by obtain ⟨_, _, _, _, e, _⟩ := T.dk; exact ⟨_, e⟩
    refine ⟨_, (pss_cons (ps_set (i := 1) sc_law_text.nd rfl (Or.inl rfl) (pe_call c_law_take.G (hr.mono (by decide)) (by rfl) c_law_take.m c_law_take.kp c_law_take.b .nil pass0 (pa_cons (pv 0) (pa_cons pe_int pa_nil))))
        (pss_cut (ps_if (pt_cmpR op_eq (pe_call c_law_take.G (hr.mono (by decide)) (by rfl) c_law_take.m c_law_take.kp c_law_take.b .nil pass0 (pa_cons (pv 0) (pa_cons pe_int pa_nil))) pe_int (nomark _)) (pss_one (ps_set (i := 1) sc_law_text.nd rfl (Or.inl rfl) (pe_op op_add pe_int (pe_call c_law_take.G (hr.mono (by decide)) (by rfl) c_law_take.m c_law_take.kp c_law_take.b .nil pass0 (pa_cons (pv 0) (pa_cons pe_int pa_nil)))))) pss_nil)
        (pss_one (ps_ret (pe_join pe_str (pe_lc (own := [("k", 2)]) (g := gName 2) (tt := tYes) (by rfl) sc_law_text.nd (pi_range1 (by rfl) z.range (pa_cons (pv 1) pa_nil)) (blkOk_by (own := [("k", 2)]) (N := ["tape", "size", "k"]) (sc := defScope s_law_text) (by decide +kernel)) (fun _ _ _ _ _ => pg_name (i := 2) sc_law_text.nd rfl (Or.inl rfl)) (fun _ _ _ _ _ => pts_nil) (fun _ _ _ _ _ => (pe_call c_law_char.G (hr.mono (by decide)) (by rfl) c_law_char.m c_law_char.kp c_law_char.b .nil pass0 (pa_cons (pv 0) pa_nil))))))))), ?_⟩
    refine ⟨_, rfl, t, c, cs, 6, rfl, T, by decide, by decide +kernel, fun d H1 d0 d1 T1 s1 => ?_⟩
    refine ⟨fun σ H' => ∃ n : Int, σ = [some (.ref t), some (.int n), none] ∧ 0 ≤ n ∧ n ≤ 30 ∧ TapeAt H' t c cs ∧ SameX t H H', ?_, ?_⟩
    · refine ⟨_, rfl, t, c, cs, 12, rfl, T1, by decide, by decide +kernel, fun e H2 e0 e1 T2 s2 => ⟨rfl, _, rfl, ?_⟩⟩
      refine ite2 (fun _ => ?_) (fun _ => ?_)
      · refine ⟨_, rfl, t, c, cs, 6, rfl, T2, by decide, by decide +kernel, fun g H3 g0 g1 T3 s3 => ⟨_, _, rfl, rfl, _, rfl, by omega, by omega, T3, s1.trans (s2.trans s3)⟩⟩
      · exact ⟨d, rfl, d0, by omega, T2, s1.trans s2⟩
    · rintro σ H2 ⟨n, rfl, n0, n1, T2, s2⟩
      refine ⟨⟨_, rfl⟩, _, rfl, n, rfl, by omega, by omega, fun D hD => lc_range (lo := 0) (n := n.toNat) (fun i H' => ∃ chs : List Nat, H' D = some (.lst ((chs.map one).map V.str)) ∧ chs.length = i ∧ (∀ x ∈ chs, chOk x) ∧ TapeAt H' t c cs ∧ SameX t H H' ∧ (∀ b o, H2 b = some o → b ≠ t → H' b = some o)) ?_ ?_ ?_⟩
      · exact ⟨[], upd_same, rfl, (by intro x hx; cases hx), T2.mono (same_new hD _), s2.trans (SameX.of (same_new hD _)), fun b o e _ => same_new hD _ b o e⟩
      · rintro i H3 hi ⟨chs, hc, hl, hn, T3, s3, s3'⟩
        have hDt : D ≠ t := by
          obtain ⟨_, _, _, _, e, _⟩ := T2.dk
          intro z; subst z; rw [hD] at e; cases e
        refine ⟨rfl, _, rfl, t, c, cs, rfl, T3, fun v H4 ⟨ch, hch, e⟩ T4 s4 => ?_⟩
        subst e
        refine ⟨_, s4 _ _ hc hDt, (by rw [List.length_map, List.length_map]; exact small1000 (by omega)), chs ++ [ch], ?_, by simp [hl], ?_, ?_, ?_, ?_⟩
        · rw [upd_same, List.map_append, List.map_append]; rfl
        · intro y hy
          rcases List.mem_append.mp hy with hy | hy
          · exact hn y hy
          · rw [List.mem_singleton.mp hy]; exact hch
        · obtain ⟨a, l, s, m, h1, h2, h3⟩ := T4.dk
          have hDc : c ≠ D := by
            intro z; subst z
            have h5 := T2.ls
            rw [hD] at h5; cases h5
          exact ⟨⟨a, l, s, m, by rw [upd_ne hDt.symm]; exact h1, h2, h3⟩, by rw [upd_ne hDc]; exact T4.ls, T4.nn⟩
        · intro b o e ne
          have hb : b ≠ D := by
            intro z; subst z
            have := s2 _ _ e ne
            rw [hD] at this; cases this
          rw [upd_ne hb]; exact s4 _ _ (s3 _ _ e ne) ne
        · intro b o e ne
          rw [upd_ne (ne_of_none e hD)]; exact s4 _ _ (s3' _ _ e ne) ne
      · rintro H3 ⟨chs, hc, hl, hn, T3, s3, _⟩
        have hsum : ((chs.map one).map (·.length)).sum + (chs.map one).length * ("" : Str).length ≤ 16777216 := by
          have e0 : ("" : Str).length = 0 := by decide +kernel
          rw [sum_ones, e0, Nat.mul_zero]; omega
        refine ⟨_, D, _, rfl, rfl, .inl (SqL.of hc), hsum, ?_⟩
        exact q _ H3 ⟨_, by rw [len_joined]; omega, by rw [tl_joined]; exact hn, rfl⟩ T3 s3)
theorem ok_law_string {f : Addr} {fd : FuncData} (k : Kn K mg "_law_string" s_law_string ["tape"] f fd) (z : Z mg)
    {g_law_text : Addr} {gd_law_text : FuncData} (c_law_text : Cal P w K mg base 3 "_law_text" ["tape"] (spDraw (isText 30)) g_law_text gd_law_text)
    {g_law_take : Addr} {gd_law_take : FuncData} (c_law_take : Cal P w K mg base 1 "_law_take" ["tape", "many"] (spTake) g_law_take gd_law_take) :
    Cal P w K mg base 4 "_law_string" ["tape"] (spDraw (isText 360)) f fd := k.cal (by
  refine k.F.ok sc_law_string (fun vs H Q E h => ?_) (fun cdv A outer s H vs Q E hr h => ?_)
  · obtain ⟨t, c, cs, rfl, _⟩ := h; rfl
  · obtain ⟨t, c, cs, rfl, T, q⟩ := h
    refine ⟨_, (pss_one (ps_ret (pe_op op_mul_str (pe_call c_law_text.G (hr.mono (by decide)) (by rfl) c_law_text.m c_law_text.kp c_law_text.b .nil pass0 (pa_cons (pv 0) pa_nil)) (pe_ix ix_list (pe_lst (pa_cons pe_int (pa_cons pe_int (pa_cons pe_int (pa_cons pe_int pa_nil))))) (pe_call c_law_take.G (hr.mono (by decide)) (by rfl) c_law_take.m c_law_take.kp c_law_take.b .nil pass0 (pa_cons (pv 0) (pa_cons pe_int pa_nil))) (fun _ _ => rfl))))), ?_⟩
    refine ⟨_, rfl, t, c, cs, rfl, T, fun v H1 hv T1 s1 => ?_⟩
    obtain ⟨zz, z1, z2, rfl⟩ := hv
    refine ⟨(by show 4 ≤ sizeLine; decide), fun L hL => ?_⟩
    have e2 := same_new hL (.lst [V.int 1, V.int 1, V.int 2, V.int 12])
    refine ⟨_, rfl, t, c, cs, 4, rfl, T1.mono e2, by decide, by decide +kernel, fun d H2 d0 d1 T2 s2 => ?_⟩
    obtain ⟨v, h1, h2⟩ := at_in (xs := [V.int 1, V.int 1, V.int 2, V.int 12]) d0 (by simpa using d1)
    obtain ⟨n, rfl, n0, n1⟩ : ∃ n : Int, v = V.int n ∧ 1 ≤ n ∧ n ≤ 12 := by
      simp only [List.mem_cons, List.not_mem_nil, or_false] at h2
      rcases h2 with rfl | rfl | rfl | rfl <;> exact ⟨_, rfl, by decide, by decide⟩
    refine ⟨L, _, d, _, rfl, rfl, SqL.of (s2 _ _ upd_same (T1.fresh hL).1), h1, ?_⟩
    refine ⟨zz, n, rfl, rfl, mul_ok (by omega) (by omega) (by omega), ?_⟩
    refine q _ H2 ⟨Txt.mul zz n, ?_, fun c hc => z2 c (mul_tl c hc), rfl⟩ T2 (s1.trans ((SameX.of e2).trans s2))
    have := mul_len (z := zz) (n := n) (by omega)
    have h3 : zz.length * max n.toNat 1 ≤ 30 * 12 := Nat.mul_le_mul z1 (by omega)
    omega)
theorem ok_law_number {f : Addr} {fd : FuncData} (k : Kn K mg "_law_number" s_law_number ["tape"] f fd) (z : Z mg)
    {g_law_take : Addr} {gd_law_take : FuncData} (c_law_take : Cal P w K mg base 1 "_law_take" ["tape", "many"] (spTake) g_law_take gd_law_take) :
    Cal P w K mg base 2 "_law_number" ["tape"] (spDraw (isInt (-4294967295) 4294967295)) f fd := k.cal (by
  refine k.F.ok sc_law_number (fun vs H Q E h => ?_) (fun cdv A outer s H vs Q E hr h => ?_)
  · obtain ⟨t, c, cs, rfl, _⟩ := h; rfl
  · obtain ⟨t, c, cs, rfl, T, q⟩ := h
    refine ⟨_, (pss_cons (ps_set (i := 1) sc_law_number.nd rfl (Or.inl rfl) (pe_call c_law_take.G (hr.mono (by decide)) (by rfl) c_law_take.m c_law_take.kp c_law_take.b .nil pass0 (pa_cons (pv 0) (pa_cons pe_int pa_nil))))
        (pss_cons (ps_if (pt_cmpR op_eq (pv 1) pe_int (nomark _)) (pss_one (ps_ret (pe_op op_sub (pe_call c_law_take.G (hr.mono (by decide)) (by rfl) c_law_take.m c_law_take.kp c_law_take.b .nil pass0 (pa_cons (pv 0) (pa_cons pe_int pa_nil))) pe_int))) pss_nil)
        (pss_cons (ps_if (pt_cmpR op_eq (pv 1) pe_int (nomark _)) (pss_one (ps_ret (pe_ix ix_list (pe_lst (pa_cons pe_int (pa_cons (pe_un un_neg pe_int) (pa_cons pe_int (pa_cons (pe_un un_neg pe_int) (pa_cons pe_int (pa_cons pe_int (pa_cons pe_int (pa_cons (pe_un un_neg pe_int) pa_nil))))))))) (pe_call c_law_take.G (hr.mono (by decide)) (by rfl) c_law_take.m c_law_take.kp c_law_take.b .nil pass0 (pa_cons (pv 0) (pa_cons pe_int pa_nil))) (fun _ _ => rfl)))) pss_nil)
        (pss_one (ps_ret (pe_op op_sub (pe_call c_law_take.G (hr.mono (by decide)) (by rfl) c_law_take.m c_law_take.kp c_law_take.b .nil pass0 (pa_cons (pv 0) (pa_cons pe_int pa_nil))) pe_int)))))), ?_⟩
    refine ⟨_, rfl, t, c, cs, 5, rfl, T, by decide, by decide +kernel, fun d H1 d0 d1 T1 s1 => ?_⟩
    refine ⟨_, rfl, rfl, _, rfl, ?_⟩
    refine ifD (fun _ => ?_) (fun _ => ?_)
    · refine ⟨_, rfl, t, c, cs, 8589934591, rfl, T1, by decide, by decide +kernel, fun e H2 e0 e1 T2 s2 => ⟨_, _, rfl, rfl, ?_⟩⟩
      exact q _ H2 ⟨_, by omega, by omega, rfl⟩ T2 (s1.trans s2)
    refine ⟨_, rfl, rfl, _, rfl, ?_⟩
    refine ifD (fun _ => ?_) (fun _ => ?_)
    · refine ⟨_, rfl, _, rfl, _, rfl, (by show 8 ≤ sizeLine; decide), fun L hL => ?_⟩
      refine ⟨_, rfl, t, c, cs, 8, rfl, T1.mono (same_new hL _), by decide, by decide +kernel, fun e H2 e0 e1 T2 s2 => ?_⟩
      obtain ⟨v, h1, h2⟩ := at_in (xs := [V.int 0, V.int (-1), V.int 4294967295, V.int (-4294967295), V.int 255, V.int 256, V.int 65536, V.int (-256)]) e0 (by simpa using e1)
      obtain ⟨n, rfl, n0, n1⟩ : ∃ n : Int, v = V.int n ∧ -4294967295 ≤ n ∧ n ≤ 4294967295 := by
        simp only [List.mem_cons, List.not_mem_nil, or_false] at h2
        rcases h2 with rfl | rfl | rfl | rfl | rfl | rfl | rfl | rfl <;> exact ⟨_, rfl, by decide, by decide⟩
      refine ⟨L, _, e, _, rfl, rfl, SqL.of (s2 _ _ upd_same (T1.fresh hL).1), h1, ?_⟩
      exact q _ H2 ⟨n, n0, n1, rfl⟩ T2 (s1.trans ((SameX.of (same_new hL _)).trans s2))
    · refine ⟨_, rfl, t, c, cs, 300, rfl, T1, by decide, by decide +kernel, fun e H2 e0 e1 T2 s2 => ⟨_, _, rfl, rfl, ?_⟩⟩
      exact q _ H2 ⟨_, by omega, by omega, rfl⟩ T2 (s1.trans s2))

theorem no_data {f : Addr} {fd : FuncData} : FnOk P w K mg base CX0 5 f fd ["tape", "depth"] (spDraws 0) := ⟨fun vs H Q E h => h.elim, fun A outer s H args us vs Q E _ _ _ _ h => h.elim⟩
theorem ok_data {n : Nat} {f gt gs gm : Addr} {fd gtd gsd gmd : FuncData} (k : Kn K mg "_law_data" s_law_data ["tape", "depth"] f fd) (z : Z mg)
    (c_law_take : Cal P w K mg base 1 "_law_take" ["tape", "many"] spTake gt gtd)
    (c_law_string : Cal P w K mg base 4 "_law_string" ["tape"] (spDraw (isText 360)) gs gsd)
    (c_law_number : Cal P w K mg base 2 "_law_number" ["tape"] (spDraw (isInt (-4294967295) 4294967295)) gm gmd)
    (c_law_data : Cal P w K mg base (n + 5) "_law_data" ["tape", "depth"] (spDraws n) f fd) : Cal P w K mg base (n + 6) "_law_data" ["tape", "depth"] (spDraws (n + 1)) f fd := k.cal (by
  refine k.F.ok sc_law_data (fun vs H Q E h => ?_) (fun cdv A outer s H vs Q E hr h => ?_)
  · obtain ⟨t, c, cs, rfl, _⟩ := h; rfl
  · obtain ⟨t, c, cs, rfl, T, n4, q⟩ := h
    have hu := hu_of hr
    refine ⟨_, (pss_cons (ps_set (i := 2) sc_law_data.nd rfl (Or.inl rfl) (pe_call c_law_take.G (hr.mono (by omega)) (by rfl) c_law_take.m c_law_take.kp c_law_take.b .nil pass0 (pa_cons (pv 0) (pa_cons pe_int pa_nil))))
    (pss_cut (ps_if (PW.pt (pw_or (pt_cmpR op_lt (pv 2) pe_int (nomark _)) (pw_or1 (PW.pt (pw_and (pt_cmpR op_eq (pv 1) pe_int (nomark _)) (pw_and1 (pt_cmpR op_gt (pv 2) pe_int (nomark _)))))))) (pss_one (ps_ret (pe_ix ix_list (pe_lst (pa_cons pe_non (pa_cons pe_bl (pa_cons pe_bl pa_nil)))) (pe_op op_mod (pv 2) pe_int) (fun _ _ => rfl)))) pss_nil)
    (pss_cons (ps_if (pt_cmpR op_eq (pv 2) pe_int (nomark _)) (pss_one (ps_ret (pe_call c_law_number.G (hr.mono (by omega)) (by rfl) c_law_number.m c_law_number.kp c_law_number.b .nil pass0 (pa_cons (pv 0) pa_nil)))) pss_nil)
    (pss_cut (ps_if (PW.pt (pw_or (pt_cmpR op_eq (pv 2) pe_int (nomark _)) (pw_or1 (pt_cmpR op_eq (pv 2) pe_int (nomark _))))) (pss_one (ps_ret (pe_call c_law_string.G (hr.mono (by omega)) (by rfl) c_law_string.m c_law_string.kp c_law_string.b .nil pass0 (pa_cons (pv 0) pa_nil)))) pss_nil)
    (pss_cons (ps_if (pt_cmpR op_eq (pv 2) pe_int (nomark _)) (pss_one (ps_ret (pe_callTy call_tuple_of (by rfl) z.tuple (by decide +kernel) (pa_cons (pe_lc (own := [("k", 3)]) (g := gName 3) (tt := tYes) (by rfl) sc_law_data.nd (pi_range1 (by rfl) z.range (pa_cons (pe_call c_law_take.G (hr.mono (by omega)) (by rfl) c_law_take.m c_law_take.kp c_law_take.b .nil pass0 (pa_cons (pv 0) (pa_cons pe_int pa_nil))) pa_nil)) (blkOk_by (own := [("k", 3)]) (N := ["tape", "depth", "choice", "k", "table", "key"]) (sc := defScope s_law_data) (by decide +kernel)) (fun _ _ _ _ _ => pg_name (i := 3) sc_law_data.nd rfl (Or.inl rfl)) (fun _ _ _ _ _ => pts_nil) (fun _ _ _ _ _ => (pe_call c_law_data.G (hr.mono (by omega)) (by rfl) c_law_data.m c_law_data.kp c_law_data.b .nil pass0 (pa_cons (pv 0) (pa_cons (pe_op op_sub (pv 1) pe_int) pa_nil))))) pa_nil)))) pss_nil)
    (pss_cons (ps_if (pt_cmpR op_eq (pv 2) pe_int (nomark _)) (pss_one (ps_ret (pe_lc (own := [("k", 3)]) (g := gName 3) (tt := tYes) (by rfl) sc_law_data.nd (pi_range1 (by rfl) z.range (pa_cons (pe_call c_law_take.G (hr.mono (by omega)) (by rfl) c_law_take.m c_law_take.kp c_law_take.b .nil pass0 (pa_cons (pv 0) (pa_cons pe_int pa_nil))) pa_nil)) (blkOk_by (own := [("k", 3)]) (N := ["tape", "depth", "choice", "k", "table", "key"]) (sc := defScope s_law_data) (by decide +kernel)) (fun _ _ _ _ _ => pg_name (i := 3) sc_law_data.nd rfl (Or.inl rfl)) (fun _ _ _ _ _ => pts_nil) (fun _ _ _ _ _ => (pe_call c_law_data.G (hr.mono (by omega)) (by rfl) c_law_data.m c_law_data.kp c_law_data.b .nil pass0 (pa_cons (pv 0) (pa_cons (pe_op op_sub (pv 1) pe_int) pa_nil))))))) pss_nil)
    (pss_cons (ps_set (i := 4) sc_law_data.nd rfl (Or.inl rfl) pe_dnewK)
    (pss_cons (ps_for PassesOwn.never rfl (pi_range1 (by rfl) z.range (pa_cons (pe_call c_law_take.G (hr.mono (by omega)) (by rfl) c_law_take.m c_law_take.kp c_law_take.b .nil pass0 (pa_cons (pv 0) (pa_cons pe_int pa_nil))) pa_nil)) (pg_name (i := 3) sc_law_data.nd rfl (Or.inl rfl))
    (pss_cut (ps_set (i := 5) sc_law_data.nd rfl (Or.inl rfl) (pe_ifExp (pt_cmpR op_eq (pe_call c_law_take.G (hr.mono (by omega)) (by rfl) c_law_take.m c_law_take.kp c_law_take.b .nil pass0 (pa_cons (pv 0) (pa_cons pe_int pa_nil))) pe_int (nomark _)) (pe_call c_law_string.G (hr.mono (by omega)) (by rfl) c_law_string.m c_law_string.kp c_law_string.b .nil pass0 (pa_cons (pv 0) pa_nil)) (pe_call c_law_number.G (hr.mono (by omega)) (by rfl) c_law_number.m c_law_number.kp c_law_number.b .nil pass0 (pa_cons (pv 0) pa_nil))))
    (pss_one (ps_dput hu (pv 4) (pv 5) (pe_call c_law_data.G (hr.mono (by omega)) (by rfl) c_law_data.m c_law_data.kp c_law_data.b .nil pass0 (pa_cons (pv 0) (pa_cons (pe_op op_sub (pv 1) pe_int) pa_nil))) rfl))))
    (pss_one (ps_ret (pv 4))))))))))), ?_⟩
    refine ⟨_, rfl, t, c, cs, 9, rfl, T, by decide, by decide +kernel, fun ch H1 d0 d1 T1 x1 => ?_⟩
    refine ⟨fun σ H' => σ = [some (.ref t), some (.int (n : Nat)), some (.int ch), none, none, none] ∧ H' = H1 ∧ 3 ≤ ch ∧ (n = 0 → ch ≤ 5), ?_, ?_⟩
    · have pick : ∀ L : Addr, H1 L = none → ∃ v, atI [V.non, V.bl true, V.bl false] (ch % 3) = some v ∧ okS v := fun L hL => by
        obtain ⟨v, h1, h2⟩ := at_in (xs := [V.non, V.bl true, V.bl false]) (i := ch % 3) (by omega) (by show ch % 3 < 3; omega)
        refine ⟨v, h1, ?_⟩
        simp only [List.mem_cons, List.not_mem_nil, or_false] at h2
        rcases h2 with rfl | rfl | rfl <;> exact True.intro
      refine ⟨_, rfl, _, _, rfl, rfl, _, rfl, ?_⟩
      refine ifD (fun h3 => ?_) (fun h3 => ?_)
      · refine ⟨(by show 3 ≤ sizeLine; decide), fun L hL => ?_⟩
        have e2 := same_new hL (.lst [V.non, V.bl true, V.bl false])
        obtain ⟨v, h1, ok⟩ := pick L hL
        refine ⟨_, rfl, _, _, rfl, rfl, (by show (0 : Int) < 3; decide), L, _, _, v, rfl, rfl, SqL.of upd_same, h1, ?_⟩
        exact q v (.s v) [] _ (.s ok.scal) (.s ok) (fun a ha => by cases ha) (T1.mono e2) (x1.trans (SameX.of e2))
      refine ⟨_, rfl, rfl, _, rfl, ?_⟩
      refine ifD (fun hn => ?_) (fun hn => ?_)
      · have hn0 : n = 0 := by have := V.int.inj hn; omega
        refine ⟨_, rfl, _, _, rfl, rfl, _, rfl, ?_⟩
        refine ifD (fun h5 => ?_) (fun h5 => ?_)
        · refine ⟨(by show 3 ≤ sizeLine; decide), fun L hL => ?_⟩
          have e2 := same_new hL (.lst [V.non, V.bl true, V.bl false])
          obtain ⟨v, h1, ok⟩ := pick L hL
          refine ⟨_, rfl, _, _, rfl, rfl, (by show (0 : Int) < 3; decide), L, _, _, v, rfl, rfl, SqL.of upd_same, h1, ?_⟩
          exact q v (.s v) [] _ (.s ok.scal) (.s ok) (fun a ha => by cases ha) (T1.mono e2) (x1.trans (SameX.of e2))
        · exact ⟨rfl, rfl, by omega, fun _ => by omega⟩
      · exact ⟨rfl, rfl, by omega, fun z => absurd (by rw [z]; rfl) hn⟩
    rintro σ H1' ⟨rfl, rfl, c3, cn5⟩
    refine ⟨_, rfl, rfl, _, rfl, ?_⟩
    refine ifD (fun e3 => ?_) (fun e3 => ?_)
    · refine ⟨_, rfl, t, c, cs, rfl, T1, fun v H2 hv T2 x2 => ?_⟩
      obtain ⟨i, i0, i1, rfl⟩ := hv
      exact q _ (.s (.int i)) [] H2 (.s rfl) (.s ⟨i0, i1⟩) (fun a ha => by cases ha) T2 (x1.trans x2)
    have ne3 : ch ≠ 3 := fun z => e3 (by rw [z])
    refine ⟨fun σ H' => σ = [some (.ref t), some (.int (n : Nat)), some (.int ch), none, none, none] ∧ H' = H1' ∧ 6 ≤ ch, ?_, ?_⟩
    · have str : ∀ (P : Prop), P → P := fun _ h => h
      refine ⟨_, rfl, rfl, _, rfl, ?_⟩
      refine ifD (fun e4 => ?_) (fun e4 => ?_)
      · refine ⟨_, rfl, t, c, cs, rfl, T1, fun v H2 hv T2 x2 => ?_⟩
        obtain ⟨y, y1, y2, rfl⟩ := hv
        exact q _ (.s (.str y)) [] H2 (.s rfl) (.s ⟨by omega, y2⟩) (fun a ha => by cases ha) T2 (x1.trans x2)
      refine ⟨_, rfl, rfl, _, rfl, ?_⟩
      refine ifD (fun e5 => ?_) (fun e5 => ?_)
      · refine ⟨_, rfl, t, c, cs, rfl, T1, fun v H2 hv T2 x2 => ?_⟩
        obtain ⟨y, y1, y2, rfl⟩ := hv
        exact q _ (.s (.str y)) [] H2 (.s rfl) (.s ⟨by omega, y2⟩) (fun a ha => by cases ha) T2 (x1.trans x2)
      have ne4 : ch ≠ 4 := fun z => e4 (by rw [z])
      have ne5 : ch ≠ 5 := fun z => e5 (by rw [z])
      exact ⟨rfl, rfl, by omega⟩
    rintro σ H1 ⟨rfl, rfl, c6⟩
    have n1 : 1 ≤ n := by omega
    refine ⟨_, rfl, rfl, _, rfl, ?_⟩
    refine ifD (fun e6 => ?_) (fun e6 => ?_)
    · have _ := e6

      obtain ⟨m, rfl⟩ : ∃ m, n = m + 1 := ⟨n - 1, by omega⟩
      refine ⟨_, rfl, t, c, cs, 4, rfl, T1, by decide, by decide +kernel, fun cn H2 cn0 cn1 T2 x2 => ?_⟩
      refine ⟨_, rfl, by omega, by omega, fun N hN => ?_⟩
      have X2 := x1.trans x2
      have e3 := same_new hN (.lst [])
      have Nt : N ≠ t := fun z => by
        obtain ⟨_, _, _, _, e, _⟩ := T2.dk
        rw [← z, hN] at e; cases e
      have Nc : N ≠ c := fun z => by have e := T2.ls; rw [← z, hN] at e; cases e
      have N0 : H N = none := X2.free Nt hN
      refine lc_range (lo := 0) (n := cn.toNat) (fun i H' => ∃ xs gs D, H' N = some (.lst xs) ∧ gs.length = i ∧ GpL H' xs gs D ∧ (∀ g ∈ gs, DOk m g) ∧ (∀ a ∈ D, H a = none ∧ a ≠ N) ∧ TapeAt H' t c cs ∧ SameX t H H') ⟨[], [], [], upd_same, rfl, .nil, (fun g hg => by cases hg), (fun a ha => by cases ha), T2.mono e3, X2.trans (SameX.of e3)⟩ ?_ ?_
      · rintro i H3 hi ⟨xs, gs, D, h3, h4, r, okg, fr, T3, x3⟩
        have em : (((m + 1 : Nat) : Int) - 1) = ((m : Nat) : Int) := by omega
        refine ⟨rfl, _, rfl, _, rfl, _, _, rfl, rfl, t, c, cs, (by show [V.ref t, V.int (((m + 1 : Nat) : Int) - 1)] = _; rw [em]), T3, by omega, fun v g D2 H4 hg okg2 fr2 T4 x4 => ?_⟩
        have h3' := x4 _ _ h3 Nt
        have D2N : ∀ a ∈ D2, a ≠ N := fun a ha z => by have := fr2 a ha; rw [z, h3] at this; cases this
        have Dt : ∀ a ∈ D, a ≠ t := fun a ha z => by
          obtain ⟨_, _, _, _, e, _⟩ := T.dk
          have := (fr a ha).1
          rw [z, e] at this; cases this
        have r4 : GpL H4 xs gs D := r.frame (KeepT.ofX T3 x4) fun b hb o e => x4 _ _ e (Dt b hb)
        have ku : KeepT H4 (upd H4 N (.lst (xs ++ [v]))) := KeepT.upd fun zs z => by rw [h3'] at z; cases z
        refine ⟨xs, h3', (by rw [r.length]; exact small1000 (by omega)), xs ++ [v], gs ++ [g], D ++ D2, upd_same, by simp [h4], ?_, ?_, ?_, T4.upd Nt Nc.symm, samex_upd N0 _ (x3.trans x4)⟩
        · exact GpL.snoc (r4.frame ku fun b hb o e => by rw [upd_ne (fr b hb).2]; exact e) (hg.frame ku fun b hb o e => by rw [upd_ne (D2N b hb)]; exact e)
        · intro g' hg'
          rcases List.mem_append.mp hg' with h | h
          · exact okg g' h
          · rw [List.mem_singleton.mp h]; exact okg2
        · intro b hb
          rcases List.mem_append.mp hb with h | h
          · exact fr b h
          · refine ⟨x3.free (fun z => ?_) (fr2 b h), D2N b h⟩
            obtain ⟨_, _, _, _, e, _⟩ := T3.dk
            have := fr2 b h
            rw [z, e] at this; cases this
      rintro H3 ⟨xs, gs, D, h3, h4, r, okg, fr, T3, x3⟩
      have lx := r.length
      have l4 : gs.length ≤ 4 := by omega
      refine ⟨N, xs, rfl, .inl ⟨SqL.of h3, fun p hp => ?_⟩⟩
      have e4 := same_new hp (.tup xs)
      exact q (.ref p) (.t gs) D _ (.t upd_same (by omega) (r.mono e4)) (.t l4 okg) (fun b hb => (fr b hb).1) (T3.mono e4) (x3.trans (SameX.of e4))
    refine ⟨_, rfl, rfl, _, rfl, ?_⟩
    refine ifD (fun e7 => ?_) (fun e7 => ?_)
    · have _ := e7

      obtain ⟨m, rfl⟩ : ∃ m, n = m + 1 := ⟨n - 1, by omega⟩
      refine ⟨_, rfl, t, c, cs, 4, rfl, T1, by decide, by decide +kernel, fun cn H2 cn0 cn1 T2 x2 => ?_⟩
      refine ⟨_, rfl, by omega, by omega, fun N hN => ?_⟩
      have X2 := x1.trans x2
      have e3 := same_new hN (.lst [])
      have Nt : N ≠ t := fun z => by
        obtain ⟨_, _, _, _, e, _⟩ := T2.dk
        rw [← z, hN] at e; cases e
      have Nc : N ≠ c := fun z => by have e := T2.ls; rw [← z, hN] at e; cases e
      have N0 : H N = none := X2.free Nt hN
      refine lc_range (lo := 0) (n := cn.toNat) (fun i H' => ∃ xs gs D, H' N = some (.lst xs) ∧ gs.length = i ∧ GpL H' xs gs D ∧ (∀ g ∈ gs, DOk m g) ∧ (∀ a ∈ D, H a = none ∧ a ≠ N) ∧ TapeAt H' t c cs ∧ SameX t H H') ⟨[], [], [], upd_same, rfl, .nil, (fun g hg => by cases hg), (fun a ha => by cases ha), T2.mono e3, X2.trans (SameX.of e3)⟩ ?_ ?_
      · rintro i H3 hi ⟨xs, gs, D, h3, h4, r, okg, fr, T3, x3⟩
        have em : (((m + 1 : Nat) : Int) - 1) = ((m : Nat) : Int) := by omega
        refine ⟨rfl, _, rfl, _, rfl, _, _, rfl, rfl, t, c, cs, (by show [V.ref t, V.int (((m + 1 : Nat) : Int) - 1)] = _; rw [em]), T3, by omega, fun v g D2 H4 hg okg2 fr2 T4 x4 => ?_⟩
        have h3' := x4 _ _ h3 Nt
        have D2N : ∀ a ∈ D2, a ≠ N := fun a ha z => by have := fr2 a ha; rw [z, h3] at this; cases this
        have Dt : ∀ a ∈ D, a ≠ t := fun a ha z => by
          obtain ⟨_, _, _, _, e, _⟩ := T.dk
          have := (fr a ha).1
          rw [z, e] at this; cases this
        have r4 : GpL H4 xs gs D := r.frame (KeepT.ofX T3 x4) fun b hb o e => x4 _ _ e (Dt b hb)
        have ku : KeepT H4 (upd H4 N (.lst (xs ++ [v]))) := KeepT.upd fun zs z => by rw [h3'] at z; cases z
        refine ⟨xs, h3', (by rw [r.length]; exact small1000 (by omega)), xs ++ [v], gs ++ [g], D ++ D2, upd_same, by simp [h4], ?_, ?_, ?_, T4.upd Nt Nc.symm, samex_upd N0 _ (x3.trans x4)⟩
        · exact GpL.snoc (r4.frame ku fun b hb o e => by rw [upd_ne (fr b hb).2]; exact e) (hg.frame ku fun b hb o e => by rw [upd_ne (D2N b hb)]; exact e)
        · intro g' hg'
          rcases List.mem_append.mp hg' with h | h
          · exact okg g' h
          · rw [List.mem_singleton.mp h]; exact okg2
        · intro b hb
          rcases List.mem_append.mp hb with h | h
          · exact fr b h
          · refine ⟨x3.free (fun z => ?_) (fr2 b h), D2N b h⟩
            obtain ⟨_, _, _, _, e, _⟩ := T3.dk
            have := fr2 b h
            rw [z, e] at this; cases this
      rintro H3 ⟨xs, gs, D, h3, h4, r, okg, fr, T3, x3⟩
      have lx := r.length
      have l4 : gs.length ≤ 4 := by omega
      refine q (.ref N) (.l gs) (N :: D) H3 (.l h3 (by omega) r) (.l l4 okg) (fun b hb => ?_) T3 x3
      rcases List.mem_cons.mp hb with rfl | hb
      · exact N0
      · exact (fr b hb).1
    obtain ⟨m, rfl⟩ : ∃ m, n = m + 1 := ⟨n - 1, by omega⟩
    refine fun N hN => ?_
    have e3 := same_new hN (.dK [])
    have Nt : N ≠ t := fun z => by
      obtain ⟨_, _, _, _, e, _⟩ := T1.dk
      rw [← z, hN] at e; cases e
    have Nc : N ≠ c := fun z => by have e := T1.ls; rw [← z, hN] at e; cases e
    have N0 : H N = none := x1.free Nt hN
    refine ⟨_, rfl, t, c, cs, 5, rfl, T1.mono e3, by decide, by decide +kernel, fun cn H2 cn0 cn1 T2 x2 => ?_⟩
    have X2 := x1.trans ((SameX.of e3).trans x2)
    refine ⟨_, rfl, by omega, by omega, for_range (lo := 0) (n := cn.toNat) (fun i σ H' => ∃ v3 v5 kvs ks D, σ = [some (.ref t), some (.int ((m + 1 : Nat) : Int)), some (.int ch), v3, some (.ref N), v5] ∧ H' N = some (.dK kvs) ∧ ks.length ≤ i ∧ GpK H' kvs ks D ∧ (ks.map (·.1)).Nodup ∧ (∀ p ∈ ks, okS (kV p.1)) ∧ (∀ p ∈ ks, DOk m p.2) ∧ (∀ a ∈ D, H a = none ∧ a ≠ N) ∧ TapeAt H' t c cs ∧ SameX t H H') ⟨none, none, [], [], [], rfl, x2 _ _ upd_same Nt, Nat.zero_le _, .nil, List.nodup_nil, (fun p hp => by cases hp), (fun p hp => by cases hp), (fun a ha => by cases ha), T2, X2⟩ ?_ ?_⟩
    · rintro i σ H3 hi ⟨v3, v5, kvs, ks, D, rfl, h3, lks, r, nd, okk, okg, fr, T3, x3⟩
      have Dt : ∀ a ∈ D, a ≠ t := fun a ha z => by
        obtain ⟨_, _, _, _, e, _⟩ := T.dk
        have := (fr a ha).1
        rw [z, e] at this; cases this
      refine ⟨fun σ H' => ∃ key : Key, σ = [some (.ref t), some (.int ((m + 1 : Nat) : Int)), some (.int ch), some (.int (0 + i)), some (.ref N), some (kV key)] ∧ okS (kV key) ∧ TapeAt H' t c cs ∧ SameX t H3 H', ?_, ?_⟩
      · refine ⟨_, rfl, t, c, cs, 2, rfl, T3, by decide, by decide +kernel, fun d2 H4 d20 d21 T4 x4 => ⟨rfl, _, rfl, ?_⟩⟩
        refine ifD (fun _ => ?_) (fun _ => ?_)
        · refine ⟨_, rfl, t, c, cs, rfl, T4, fun v H5 hv T5 x5 => ?_⟩
          obtain ⟨y, y1, y2, rfl⟩ := hv
          exact ⟨.inr y, rfl, ⟨by omega, y2⟩, T5, x4.trans x5⟩
        · refine ⟨_, rfl, t, c, cs, rfl, T4, fun v H5 hv T5 x5 => ?_⟩
          obtain ⟨y, y1, y2, rfl⟩ := hv
          exact ⟨.inl y, rfl, ⟨y1, y2⟩, T5, x4.trans x5⟩
      rintro σ H5 ⟨key, rfl, okey, T5, x5⟩
      have em : (((m + 1 : Nat) : Int) - 1) = ((m : Nat) : Int) := by omega
      refine ⟨_, rfl, _, rfl, _, _, rfl, rfl, t, c, cs, (by show [V.ref t, V.int (((m + 1 : Nat) : Int) - 1)] = _; rw [em]), T5, by omega, fun v g D2 H6 hg okg2 fr2 T6 x6 => ?_⟩
      have x36 := x5.trans x6
      have h3' := x36 _ _ h3 Nt
      have h35 := x5 _ _ h3 Nt
      have D2N : ∀ a ∈ D2, a ≠ N := fun a ha z => by have := fr2 a ha; rw [z, h35] at this; cases this
      have r6 : GpK H6 kvs ks D := r.frame (KeepT.ofX T3 x36) fun b hb o e => x36 _ _ e (Dt b hb)
      have ku : KeepT H6 (upd H6 N (.dK (putK kvs key v))) := KeepT.upd fun zs z => by rw [h3'] at z; cases z
      have r7 : GpK (upd H6 N (.dK (putK kvs key v))) kvs ks D := r6.frame ku fun b hb o e => by rw [upd_ne (fr b hb).2]; exact e
      have g7 : Gp (upd H6 N (.dK (putK kvs key v))) v g D2 := hg.frame ku fun b hb o e => by rw [upd_ne (D2N b hb)]; exact e
      obtain ⟨D', r8, hD⟩ := r7.put (k := key) g7
      have lkv : kvs.length = ks.length := by have := congrArg List.length r.keys; simpa using this
      refine ⟨_, rfl, _, rfl, N, _, rfl, DPut.k (k := key) h3' (small1000 (by omega)), ?_⟩
      refine ⟨_, _, _, putG ks key g, D', rfl, upd_same, by have := putG_len (ks := ks) (k := key) (g := g); omega, r8, putG_nd nd, ?_, ?_, ?_, T6.upd Nt Nc.symm, samex_upd N0 _ (x3.trans x36)⟩
      · intro p hp
        rcases putG_mem hp with ⟨e, _⟩ | hp
        · rw [e]; exact okey
        · exact okk p hp
      · intro p hp
        rcases putG_mem hp with ⟨_, e⟩ | hp
        · rw [e]; exact okg2
        · exact okg p hp
      · intro b hb
        rcases hD b hb with h | h
        · exact fr b h
        · refine ⟨(x3.trans x5).free (fun z => ?_) (fr2 b h), D2N b h⟩
          obtain ⟨_, _, _, _, e, _⟩ := T5.dk
          have := fr2 b h
          rw [z, e] at this; cases this
    · rintro σ H3 ⟨v3, v5, kvs, ks, D, rfl, h3, lks, r, nd, okk, okg, fr, T3, x3⟩
      have lkv : kvs.length = ks.length := by have := congrArg List.length r.keys; simpa using this
      refine ⟨_, rfl, q (.ref N) (.d ks) (N :: D) H3 (.d h3 (by omega) (by rw [r.keys]; exact nd) r (fun h => (fr N h).2 rfl)) (.d (by omega) nd okk okg) (fun b hb => ?_) T3 x3⟩
      rcases List.mem_cons.mp hb with rfl | hb
      · exact N0
      · exact (fr b hb).1)
theorem ok_law_datas {f gt gs gm : Addr} {fd gtd gsd gmd : FuncData} (k : Kn K mg "_law_data" s_law_data ["tape", "depth"] f fd) (z : Z mg)
    (c_law_take : Cal P w K mg base 1 "_law_take" ["tape", "many"] spTake gt gtd)
    (c_law_string : Cal P w K mg base 4 "_law_string" ["tape"] (spDraw (isText 360)) gs gsd)
    (c_law_number : Cal P w K mg base 2 "_law_number" ["tape"] (spDraw (isInt (-4294967295) 4294967295)) gm gmd) : ∀ n : Nat, Cal P w K mg base (n + 5) "_law_data" ["tape", "depth"] (spDraws n) f fd
  | 0 => k.cal no_data
  | n + 1 => ok_data k z c_law_take c_law_string c_law_number (ok_law_datas k z c_law_take c_law_string c_law_number n)
theorem ok_law_bytes {f : Addr} {fd : FuncData} (k : Kn K mg "_law_bytes" s_law_bytes ["number", "size"] f fd) (z : Z mg) :
    Cal P w K mg base 1 "_law_bytes" ["number", "size"] (spNB) f fd := k.cal (by
  refine k.F.ok sc_law_bytes (fun vs H Q E h => ?_) (fun cdv A outer s H vs Q E hr h => ?_)
  · obtain ⟨n, k, rfl, _⟩ := h; rfl
  · obtain ⟨n, k, rfl, hk, q⟩ := h
    refine ⟨_, (pss_cons (ps_set (i := 2) sc_law_bytes.nd rfl (Or.inl rfl) (pe_lst pa_nil))
        (pss_cons (ps_for PassesOwn.never rfl (pi_range1 (by rfl) z.range (pa_cons (pv 1) pa_nil)) (pg_name (i := 3) sc_law_bytes.nd rfl (Or.inl rfl))
        (pss_cons (ps_set (i := 2) sc_law_bytes.nd rfl (Or.inl rfl) (pe_op op_cat (pe_lst (pa_cons (pe_op op_mod (pe_callTy call_int1 (by rfl) z.int (by decide +kernel) (pa_cons (pv 0) pa_nil)) pe_int) pa_nil)) (pv 2)))
        (pss_one (ps_set (i := 0) sc_law_bytes.nd rfl (Or.inl rfl) (pe_op op_fdivW (pv 0) pe_int)))))
        (pss_one (ps_ret (pv 2))))), ?_⟩
    refine ⟨Nat.zero_le _, fun F hF => ?_⟩
    refine ⟨_, rfl, k, rfl, by omega, by omega, for_range (lo := 0) (n := k) (fun i σ H' => ∃ v R, σ = [some (.int (n / 256 ^ i : Nat)), some (.int k), some (.ref R), v] ∧ H' R = some (.lst ((nbR n i).reverse.map V.int)) ∧ Same H H' ∧ H R = none) ⟨none, F, by rw [Nat.pow_zero, Nat.div_one]; rfl, upd_same, same_new hF _, hF⟩ ?_ ?_⟩
    · rintro i σ H1 hi ⟨v, R, rfl, h1, s1, nR⟩
      refine ⟨_, rfl, .inl ⟨_, rfl, _, _, rfl, rfl, (by show (0 : Int) < 256; decide), ?_⟩⟩
      refine ⟨(by show 1 ≤ sizeLine; decide), fun L hL => ?_⟩
      have s2 := same_new hL (.lst [V.int (((n / 256 ^ i : Nat) : Int) % 256)])
      refine ⟨_, rfl, _, _, _, _, rfl, rfl, upd_same, s2 _ _ h1, ?_, fun p hp => ?_⟩
      · rw [List.length_map, List.length_reverse, nbR_len]; exact Nat.le_of_lt (small1000 (by simp only [List.length_cons, List.length_nil]; omega))
      refine ⟨_, rfl, _, _, rfl, rfl, wide_div (b := 9) (by decide) (by decide) (by decide) (by decide), ?_⟩
      refine ⟨some (.int (0 + i)), p, ?_, ?_, same_upd ((s1.trans s2).free hp) _ (s1.trans s2), (s1.trans s2).free hp⟩
      · have e : ((n / 256 ^ i : Nat) : Int) / 256 = ((n / 256 ^ (i + 1) : Nat) : Int) := by
          rw [Nat.pow_succ, ← Nat.div_div_eq_div_mul]
          omega
        rw [← e]
        rfl
      · rw [upd_same, nbR_snoc, List.reverse_append]
        have e : ((n / 256 ^ i : Nat) : Int) % 256 = ((n / 256 ^ i % 256 : Nat) : Int) := by omega
        rw [← e]
        rfl
    · rintro σ H1 ⟨v, R, rfl, h1, s1, nR⟩
      exact ⟨_, rfl, q R H1 h1 s1 nR⟩)
theorem ok_law_codes {f : Addr} {fd : FuncData} (k : Kn K mg "_law_codes" s_law_codes ["text"] f fd) (z : Z mg) :
    Cal P w K mg base 1 "_law_codes" ["text"] (spCodes) f fd := k.cal (by
  refine k.F.ok sc_law_codes (fun vs H Q E h => ?_) (fun cdv A outer s H vs Q E hr h => ?_)
  · obtain ⟨z, rfl, _⟩ := h; rfl
  · obtain ⟨zz, rfl, ok, q⟩ := h
    refine ⟨_, (pss_cons (ps_set (i := 1) sc_law_codes.nd rfl (Or.inl rfl) pe_str)
        (pss_cons (ps_set (i := 1) sc_law_codes.nd rfl (Or.inl rfl) (pe_op op_add_str (pv 1) pe_str))
        (pss_cons (ps_set (i := 2) sc_law_codes.nd rfl (Or.inl rfl) (pe_lst pa_nil))
        (pss_cons (ps_for PassesOwn.never rfl (pi_str (pv 0)) (pg_name (i := 3) sc_law_codes.nd rfl (Or.inl rfl))
        (pss_cons (ps_set (i := 4) sc_law_codes.nd rfl (Or.inl rfl) (pe_bm PySem.F.plainAttrs_str PySem.F.slot_str_index PySem.F.type_str_index mt_sindex (pv 1) (pa_cons (pv 3) pa_nil)))
        (pss_one (ps_expr (pe_bm PySem.F.plainAttrs_list PySem.F.slot_list_append PySem.F.type_list_append mt_append (pv 2) (pa_cons (pe_ifExp (pt_cmpR op_lt (pv 4) pe_int (nomark _)) (pe_op op_add (pv 4) pe_int) (pe_op op_add (pv 4) pe_int)) pa_nil))))))
        (pss_one (ps_ret (pv 2))))))), ?_⟩
    have ln : zz.length = zz.cps.size := rfl
    have l400 := ok.1
    refine ⟨_, rfl, _, _, rfl, rfl, (by decide +kernel), ?_⟩
    refine ⟨Nat.zero_le _, fun F hF => ?_⟩
    refine ⟨_, rfl, zz, rfl, for_it walk_str (fun i σ H' => (∃ v w, σ = [some (.str zz), some (.str chars94), some (.ref F), v, w]) ∧ H' F = some (.lst ((((tl zz).take i).map fun c => ((c : Nat) : Int)).map V.int)) ∧ Same H H') ⟨⟨none, none, rfl⟩, upd_same, same_new hF _⟩ (fun _ _ _ _ _ => True.intro) ?_ ?_⟩
    · rintro i x σ H1 H1' hi ⟨⟨v, w, rfl⟩, h1, s1⟩ ⟨e1, c, e2, rfl⟩
      subst e1
      have ec : (tl zz)[i]? = some c := by rw [← e2]; exact Array.getElem?_toList
      have okc : chOk c := ok.2 c (List.mem_of_getElem? ec)
      obtain ⟨ix, rest, o1, o2⟩ := code_ix okc
      have st : ∀ v' : Int, v' = (c : Int) → (upd H1' F (.lst ((((tl zz).take i).map fun c => ((c : Nat) : Int)).map V.int ++ [.int v']))) F = some (.lst ((((tl zz).take (i + 1)).map fun c => ((c : Nat) : Int)).map V.int)) := fun v' e => by
        rw [upd_same, e, List.take_add_one, ec]
        simp
      have sz : (((tl zz).take i).map fun c => V.int ((c : Nat) : Int)).length < sizeLine := by rw [List.length_map, List.length_take]; exact small1000 (by omega)
      rw [List.map_map] at h1
      refine ⟨_, rfl, rfl, _, rfl, chars94, one c, ix, rest, rfl, rfl, o1, ?_⟩
      refine ⟨_, rfl, .inl ⟨rfl, _, SqL.of h1⟩, _, rfl, _, _, rfl, rfl, _, rfl, ?_⟩
      have fin : ∀ v' : Int, v' = (c : Int) → (upd H1' F (.lst (((tl zz).take i).map (V.int ∘ fun c => ((c : Nat) : Int)) ++ [.int v']))) F = some (.lst ((((tl zz).take (i + 1)).map fun c => ((c : Nat) : Int)).map V.int)) := fun v' e => by
        rw [← List.map_map]; exact st v' e
      refine ifD (fun h5 => ?_) (fun h5 => ?_)
      · refine ⟨_, rfl, _, _, rfl, rfl, F, _, _, rfl, rfl, h1, sz, ⟨_, _, rfl⟩, fin _ ?_, same_upd hF _ s1⟩
        rw [if_pos (by omega)] at o2; omega
      · refine ⟨_, rfl, _, _, rfl, rfl, F, _, _, rfl, rfl, h1, sz, ⟨_, _, rfl⟩, fin _ ?_, same_upd hF _ s1⟩
        rw [if_neg (by omega)] at o2; omega
    · rintro σ H1 ⟨⟨v, w, rfl⟩, h1, s1⟩
      refine ⟨_, rfl, q F H1 ?_ s1 hF⟩
      have e : (tl zz).take zz.cps.size = tl zz := List.take_of_length_le (by simp [tl])
      rw [e] at h1
      exact h1)

theorem no_lpack {f : Addr} {fd : FuncData} : FnOk P w K mg base CX0 2 f fd ["data"] (spPack 0) := ⟨fun vs H Q E h => h.elim, fun A outer s H args us vs Q E _ _ _ _ h => h.elim⟩
theorem ok_lpack {n : Nat} {f gb gc : Addr} {fd gbd gcd : FuncData} (k : Kn K mg "_law_pack" s_law_pack ["data"] f fd) (z : Z mg)
    (c_law_bytes : Cal P w K mg base 1 "_law_bytes" ["number", "size"] spNB gb gbd)
    (c_law_codes : Cal P w K mg base 1 "_law_codes" ["text"] spCodes gc gcd)
    (c_law_pack : Cal P w K mg base (n + 2) "_law_pack" ["data"] (spPack n) f fd) : Cal P w K mg base (n + 3) "_law_pack" ["data"] (spPack (n + 1)) f fd := k.cal (by
  refine k.F.ok sc_law_pack (fun vs H Q E h => ?_) (fun cdv A outer s H vs Q E hr h => ?_)
  · obtain ⟨v, g, D, rfl, _⟩ := h; rfl
  · obtain ⟨v, g, D, rfl, hg, ok, n4, q⟩ := h
    have hu := hu_of hr
    refine ⟨_, (pss_cons (ps_if (pt_cmpR op_isN (pv 0) pe_non (nomark _)) (pss_one (ps_ret (pe_lst (pa_cons pe_int pa_nil)))) pss_nil)
    (pss_cons (ps_if (pt_val (pe_callB call_isi (by rfl) z.isinstance (by decide +kernel) (pa_cons (pv 0) (pa_cons (pe_bltn (v := .ty "bool") (u := .type "bool") (by rfl) z.bool (by decide +kernel) rfl) pa_nil)))) (pss_one (ps_ret (pe_lst (pa_cons (pe_op op_add pe_int (pe_callTy call_int1 (by rfl) z.int (by decide +kernel) (pa_cons (pv 0) pa_nil))) pa_nil)))) pss_nil)
    (pss_cons (ps_if (pt_val (pe_callB call_isi (by rfl) z.isinstance (by decide +kernel) (pa_cons (pv 0) (pa_cons (pe_bltn (v := .ty "int") (u := .type "int") (by rfl) z.int (by decide +kernel) rfl) pa_nil)))) (pss_one (ps_ret (pe_ifExp (pt_cmpR op_ge (pv 0) pe_int (nomark _)) (pe_op op_cat (pe_lst (pa_cons pe_int pa_nil)) (pe_call c_law_bytes.G (hr.mono (by omega)) (by rfl) c_law_bytes.m c_law_bytes.kp c_law_bytes.b .nil pass0 (pa_cons (pv 0) (pa_cons pe_int pa_nil)))) (pe_op op_cat (pe_lst (pa_cons pe_int pa_nil)) (pe_call c_law_bytes.G (hr.mono (by omega)) (by rfl) c_law_bytes.m c_law_bytes.kp c_law_bytes.b .nil pass0 (pa_cons (pe_un un_neg (pv 0)) (pa_cons pe_int pa_nil))))))) pss_nil)
    (pss_cons (ps_if (pt_val (pe_callB call_isi (by rfl) z.isinstance (by decide +kernel) (pa_cons (pv 0) (pa_cons (pe_bltn (v := .ty "str") (u := .type "str") (by rfl) z.str (by decide +kernel) rfl) pa_nil)))) (pss_one (ps_ret (pe_op op_cat (pe_op op_cat (pe_lst (pa_cons pe_int pa_nil)) (pe_call c_law_bytes.G (hr.mono (by omega)) (by rfl) c_law_bytes.m c_law_bytes.kp c_law_bytes.b .nil pass0 (pa_cons (pe_callB (call_either call_len_str (call_either call_len_seq call_lenD)) (by rfl) z.len (by decide +kernel) (pa_cons (pv 0) pa_nil)) (pa_cons pe_int pa_nil)))) (pe_call c_law_codes.G (hr.mono (by omega)) (by rfl) c_law_codes.m c_law_codes.kp c_law_codes.b .nil pass0 (pa_cons (pv 0) pa_nil))))) pss_nil)
    (pss_cons (ps_set (i := 1) sc_law_pack.nd rfl (Or.inl rfl) (pe_lst pa_nil))
    (pss_cons (ps_set (i := 2) sc_law_pack.nd rfl (Or.inl rfl) (pv 0))
    (pss_cons (ps_set (i := 3) sc_law_pack.nd rfl (Or.inl rfl) pe_int)
    (pss_cut (ps_if (pt_val (pe_callB call_isi (by rfl) z.isinstance (by decide +kernel) (pa_cons (pv 0) (pa_cons (pe_bltn (v := .ty "list") (u := .type "list") (by rfl) z.list (by decide +kernel) rfl) pa_nil)))) (pss_one (ps_set (i := 3) sc_law_pack.nd rfl (Or.inl rfl) pe_int)) pss_nil)
    (pss_cons (ps_if (pt_val (pe_callB call_isi (by rfl) z.isinstance (by decide +kernel) (pa_cons (pv 0) (pa_cons (pe_bltn (v := .ty "dict") (u := .type "dict") (by rfl) z.dict (by decide +kernel) rfl) pa_nil)))) (pss_cons (ps_set (i := 3) sc_law_pack.nd rfl (Or.inl rfl) pe_int)
    (pss_cons (ps_set (i := 5) sc_law_pack.nd rfl (Or.inl rfl) (pe_callB (cr_sortedI) (by rfl) z.sorted (by decide +kernel) (pa_cons (pe_lock (pe_lc (own := [("key", 4)]) (g := gName 4) (by rfl) sc_law_pack.nd (pi_keys (pv 0)) (blkOk_by (own := [("key", 4)]) (N := ["data", "parts", "items", "tag", "key", "numbers", "item"]) (sc := defScope s_law_pack) (by decide +kernel)) (fun _ _ _ _ _ => pg_name (i := 4) sc_law_pack.nd rfl (Or.inl rfl)) (fun _ _ _ _ _ => (pts_one (pt_not (pt_val (pe_callB (r := rIsi K) call_isi (by rfl) z.isinstance (by decide +kernel) (pa_cons (pv 4) (pa_cons (pe_bltn (v := .ty "str") (u := .type "str") (by rfl) z.str (by decide +kernel) rfl) pa_nil))))))) (fun _ _ _ _ _ => (pv 4)))) pa_nil)))
    (pss_cons (ps_set (i := 2) sc_law_pack.nd rfl (Or.inl rfl) (pe_lst pa_nil))
    (pss_cons (ps_for PassesOwn.never rfl (pi_list (pe_op op_cat (pv 5) (pe_callB (cr_sortedS) (by rfl) z.sorted (by decide +kernel) (pa_cons (pe_lock (pe_lc (own := [("key", 4)]) (g := gName 4) (by rfl) sc_law_pack.nd (pi_keys (pv 0)) (blkOk_by (own := [("key", 4)]) (N := ["data", "parts", "items", "tag", "key", "numbers", "item"]) (sc := defScope s_law_pack) (by decide +kernel)) (fun _ _ _ _ _ => pg_name (i := 4) sc_law_pack.nd rfl (Or.inl rfl)) (fun _ _ _ _ _ => (pts_one (pt_val (pe_callB (r := rIsi K) call_isi (by rfl) z.isinstance (by decide +kernel) (pa_cons (pv 4) (pa_cons (pe_bltn (v := .ty "str") (u := .type "str") (by rfl) z.str (by decide +kernel) rfl) pa_nil)))))) (fun _ _ _ _ _ => (pv 4)))) pa_nil)))) (pg_name (i := 4) sc_law_pack.nd rfl (Or.inl rfl))
    (pss_one (ps_set (i := 1) sc_law_pack.nd rfl (Or.inl rfl) (pe_op op_cat (pe_op op_cat (pv 1) (pe_call c_law_pack.G (hr.mono (by omega)) (by rfl) c_law_pack.m c_law_pack.kp c_law_pack.b .nil pass0 (pa_cons (pv 4) pa_nil))) (pe_call c_law_pack.G (hr.mono (by omega)) (by rfl) c_law_pack.m c_law_pack.kp c_law_pack.b .nil pass0 (pa_cons (pe_dget hu (pv 0) (pv 4) (fun _ _ => rfl)) pa_nil))))))
    (pss_one (ps_ret (pe_op op_cat (pe_op op_cat (pe_lst (pa_cons pe_int pa_nil)) (pe_call c_law_bytes.G (hr.mono (by omega)) (by rfl) c_law_bytes.m c_law_bytes.kp c_law_bytes.b .nil pass0 (pa_cons (pe_callB (call_either call_len_str (call_either call_len_seq call_lenD)) (by rfl) z.len (by decide +kernel) (pa_cons (pv 0) pa_nil)) (pa_cons pe_int pa_nil)))) (pv 1)))))))) pss_nil)
    (pss_cons (ps_for PassesOwn.never rfl (pi_either (pi_list (pv 2)) (pi_tup (pv 2))) (pg_name (i := 6) sc_law_pack.nd rfl (Or.inl rfl))
    (pss_one (ps_set (i := 1) sc_law_pack.nd rfl (Or.inl rfl) (pe_op op_cat (pv 1) (pe_call c_law_pack.G (hr.mono (by omega)) (by rfl) c_law_pack.m c_law_pack.kp c_law_pack.b .nil pass0 (pa_cons (pv 6) pa_nil))))))
    (pss_one (ps_ret (pe_op op_cat (pe_op op_cat (pe_lst (pa_cons (pv 3) pa_nil)) (pe_call c_law_bytes.G (hr.mono (by omega)) (by rfl) c_law_bytes.m c_law_bytes.kp c_law_bytes.b .nil pass0 (pa_cons (pe_callB (call_either call_len_str (call_either call_len_seq call_lenD)) (by rfl) z.len (by decide +kernel) (pa_cons (pv 0) pa_nil)) (pa_cons pe_int pa_nil)))) (pv 1)))))))))))))), ?_⟩
    cases ok with
    | @s _ v' okv =>
      cases hg with
      | s hs =>
      obtain ⟨t, hT, c⟩ := ty_scal (K := K) (H := H) hs
      rw [packM] at q
      rcases c with ⟨rfl, rfl⟩ | ⟨⟨b, rfl⟩, rfl⟩ | ⟨⟨i, rfl⟩, rfl⟩ | ⟨⟨y, rfl⟩, rfl⟩
      · refine ⟨_, rfl, rfl, _, rfl, iteDT rfl ?_⟩
        exact ⟨(by show 1 ≤ sizeLine; decide), fun p hp => q p _ upd_same (same_new hp _) hp⟩
      · refine ⟨_, rfl, rfl, _, rfl, iteDF (fun e => nomatch e) ⟨_, rfl, _, _, _, _, true, rfl, .ty _, hT, kit_ty (by decide +kernel), _, rfl, ?_⟩⟩
        refine ⟨_, rfl, .inr ⟨_, rfl, _, _, rfl, rfl, (by show 1 ≤ sizeLine; decide), fun p hp => ?_⟩⟩
        refine q p _ ?_ (same_new hp _) hp
        rw [upd_same]
        cases b <;> rfl
      · refine ⟨_, rfl, rfl, _, rfl, iteDF (fun e => nomatch e) ⟨_, rfl, _, _, _, _, false, rfl, .ty _, hT, kit_ty (by decide +kernel), _, rfl, ?_⟩⟩
        refine ⟨_, rfl, _, _, _, _, true, rfl, .ty _, hT, kit_ty (by decide +kernel), _, rfl, ?_⟩
        refine ⟨_, rfl, _, _, rfl, rfl, _, rfl, ?_⟩
        refine ifD (fun h => ?_) (fun h => ?_)
        · refine ⟨(by show 1 ≤ sizeLine; decide), fun L hL => ?_⟩
          obtain ⟨m, hn⟩ : ∃ n : Nat, i = n := ⟨i.toNat, by omega⟩
          refine ⟨_, rfl, m, 4, (by show [V.int i, V.int 4] = _; rw [hn]; rfl), by decide, fun p H1 h1 s1 n1 => ?_⟩
          refine ⟨_, _, _, _, rfl, rfl, s1 _ _ upd_same, h1, ?_, fun r hr => ?_⟩
          · rw [List.length_map, nb_len]; show 1 + 4 ≤ sizeLine; decide
          refine q r _ ?_ (same_upd (((same_new hL _).trans s1).free hr) _ ((same_new hL _).trans s1)) (((same_new hL _).trans s1).free hr)
          rw [upd_same]
          show _ = some (HO.lst ((if i < 0 then 4 :: nb (-i).toNat 4 else 3 :: nb i.toNat 4 : List Int).map V.int))
          rw [if_neg (by omega), hn, Int.toNat_natCast]
          rfl
        · refine ⟨(by show 1 ≤ sizeLine; decide), fun L hL => ?_⟩
          obtain ⟨m, hn⟩ : ∃ n : Nat, -i = n := ⟨(-i).toNat, by omega⟩
          refine ⟨_, rfl, _, rfl, m, 4, (by show [V.int (-i), V.int 4] = _; rw [hn]; rfl), by decide, fun p H1 h1 s1 n1 => ?_⟩
          refine ⟨_, _, _, _, rfl, rfl, s1 _ _ upd_same, h1, ?_, fun r hr => ?_⟩
          · rw [List.length_map, nb_len]; show 1 + 4 ≤ sizeLine; decide
          refine q r _ ?_ (same_upd (((same_new hL _).trans s1).free hr) _ ((same_new hL _).trans s1)) (((same_new hL _).trans s1).free hr)
          rw [upd_same]
          show _ = some (HO.lst ((if i < 0 then 4 :: nb (-i).toNat 4 else 3 :: nb i.toNat 4 : List Int).map V.int))
          rw [if_pos (by omega), hn, Int.toNat_natCast]
          rfl
      · refine ⟨_, rfl, rfl, _, rfl, iteDF (fun e => nomatch e) ⟨_, rfl, _, _, _, _, false, rfl, .ty _, hT, kit_ty (by decide +kernel), _, rfl, ?_⟩⟩
        refine ⟨_, rfl, _, _, _, _, false, rfl, .ty _, hT, kit_ty (by decide +kernel), _, rfl, ?_⟩
        refine ⟨_, rfl, _, _, _, _, true, rfl, .ty _, hT, kit_ty (by decide +kernel), _, rfl, ?_⟩
        have l400 := okv.1
        refine ⟨(by show 1 ≤ sizeLine; decide), fun L hL => ?_⟩
        have s0 := same_new hL (.lst [V.int 5])
        refine ⟨_, rfl, .inl ⟨y, rfl, Nat.le_of_lt (small1000 (by omega)), y.length, 2, rfl, by decide, fun p H1 h1 s1 n1 => ?_⟩⟩
        refine ⟨_, _, _, _, rfl, rfl, s1 _ _ upd_same, h1, ?_, fun r hr => ?_⟩
        · rw [List.length_map, nb_len]; show 1 + 2 ≤ sizeLine; decide
        have s2 := s0.trans (s1.trans (same_new hr (.lst ([V.int 5] ++ (nb y.length 2).map V.int))))
        refine ⟨_, rfl, y, rfl, okv, fun p2 H3 h3 s3 n3 => ?_⟩
        refine ⟨_, _, _, _, rfl, rfl, s3 _ _ upd_same, h3, ?_, fun w hw => ?_⟩
        · rw [List.length_append, List.length_map, nb_len, List.length_map, List.length_map, ← len_tl]
          show 1 + 2 + y.length ≤ sizeLine
          exact Nat.le_of_lt (small1000 (by omega))
        have S := s2.trans s3
        refine q w _ ?_ (same_upd (S.free hw) _ S) (S.free hw)
        rw [upd_same]
        show _ = some (HO.lst ((5 :: (nb y.length 2 ++ (tl y).map fun c => ((c : Nat) : Int))).map V.int))
        rw [List.map_cons, List.map_append]
        simp
    | @t m gs l4 okg =>
      cases hg with
      | @t a xs _ _ ha hn r =>
      have hT : TyX K H (.ref a) (.type "tuple") := .base (.tup ha)
      refine ⟨_, rfl, rfl, _, rfl, iteDF (fun e => nomatch e) ⟨_, rfl, _, _, _, _, false, rfl, .ty _, hT, kit_ty (by decide +kernel), _, rfl, ?_⟩⟩
      refine ⟨_, rfl, _, _, _, _, false, rfl, .ty _, hT, kit_ty (by decide +kernel), _, rfl, ?_⟩
      refine ⟨_, rfl, _, _, _, _, false, rfl, .ty _, hT, kit_ty (by decide +kernel), _, rfl, ?_⟩
      refine ⟨Nat.zero_le _, fun P0 hP0 => ?_⟩
      have s0 := same_new hP0 (.lst [])
      have hT0 : TyX K (upd H P0 (.lst [])) (.ref a) (.type "tuple") := .base (.tup (s0 _ _ ha))
      refine ⟨_, rfl, ?_⟩
      refine ⟨fun σ H' => σ = [some (.ref a), some (.ref P0), some (.ref a), some (.int 6), none, none, none] ∧ H' = upd H P0 (.lst []), ?_, ?_⟩
      · exact ⟨_, rfl, _, _, _, _, false, rfl, .ty _, hT0, kit_ty (by decide +kernel), _, rfl, iteF ⟨rfl, rfl⟩⟩
      rintro σ H0 ⟨rfl, rfl⟩
      refine ⟨_, rfl, _, _, _, _, false, rfl, .ty _, hT0, kit_ty (by decide +kernel), _, rfl, ?_⟩
      refine iteF ?_
      have lx : xs.length = gs.length := r.length
      have pl := plen_3 (n := m) (by omega)
      have sm : ∀ i, i ≤ gs.length → (packL (gs.take i)).length ≤ 4 * plen m := fun i hi => by
        have h1 := packL_len (n := m) (gs := gs.take i) fun g hg => okg g (List.mem_of_mem_take hg)
        have h2 : (gs.take i).length * plen m ≤ 4 * plen m := Nat.mul_le_mul_right _ (by rw [List.length_take]; omega)
        omega
      refine .inr ⟨_, rfl, a, rfl, ⟨_, SqT.of (s0 _ _ ha)⟩, for_tup (K := K) (a := a) (xs := xs) (fun i σ H' => (∃ v Pi, σ = [some (.ref a), some (.ref Pi), some (.ref a), some (.int 6), none, none, v] ∧ H' Pi = some (.lst ((packL (gs.take i)).map V.int))) ∧ Same H H') ⟨⟨none, P0, rfl, upd_same⟩, s0⟩ (fun i σ H' _ hh => SqT.of (hh.2 _ _ ha)) ?_ ?_⟩
      · rintro i x σ H3 hi ⟨⟨v, Pi, rfl, h3⟩, s3⟩
        obtain ⟨g1, E1, e1, p1, i1⟩ := r.get hi
        have hg := okg g1 (List.mem_of_getElem? e1)
        have hil : i < gs.length := (List.getElem?_eq_some_iff.mp e1).1
        refine ⟨_, rfl, _, rfl, x, g1, E1, rfl, p1.mono s3, hg, by omega, fun p H4 h4 s4 _ => ?_⟩
        refine ⟨_, _, _, _, rfl, rfl, s4 _ _ h3, h4, ?_, fun w hw => ?_⟩
        · have b1 := sm i (by omega)
          have b2 := pack_len hg
          rw [List.length_map, List.length_map]
          exact small6 (by omega)
        refine ⟨⟨_, w, rfl, ?_⟩, (s3.trans s4).trans (same_new hw _)⟩
        rw [upd_same, packL_take e1, List.map_append]
      · rintro σ H3 ⟨⟨v, Pi, rfl, h3⟩, s3⟩
        rw [lx, List.take_length] at h3
        refine ⟨_, rfl, (by show 1 ≤ sizeLine; decide), fun L hL => ?_⟩
        have s4 := s3.trans (same_new hL (.lst [V.int 6]))
        refine ⟨_, rfl, .inr (.inl ⟨a, _, rfl, .inr (SqT.of (s4 _ _ ha)), xs.length, 2, rfl, by decide, fun p H4 h4 s5 n5 => ?_⟩)⟩
        rw [lx] at h4
        refine ⟨_, _, _, _, rfl, rfl, s5 _ _ upd_same, h4, ?_, fun w hw => ?_⟩
        · rw [List.length_map, nb_len]; show 1 + 2 ≤ sizeLine; decide
        have s6 := (s4.trans s5).trans (same_new hw (.lst ([V.int 6] ++ (nb gs.length 2).map V.int)))
        have h3' := same_new hw (.lst ([V.int 6] ++ (nb gs.length 2).map V.int)) _ _ (s5 _ _ (same_new hL (.lst [V.int 6]) _ _ h3))
        refine ⟨_, rfl, _, _, _, _, rfl, rfl, upd_same, h3', ?_, fun u hu1 => ?_⟩
        · have b1 := sm gs.length (Nat.le_refl _)
          rw [List.take_length] at b1
          rw [List.length_append, List.length_map, nb_len, List.length_map]
          exact small6 (by show 1 + 2 + (packL gs).length ≤ 1000000; omega)
        rw [packM] at q
        refine q u _ ?_ (s6.trans (same_new hu1 _)) (s6.free hu1)
        rw [upd_same]
        simp
    | @l m gs l4 okg =>
      cases hg with
      | @l a xs _ _ ha hn r =>
      have hT : TyX K H (.ref a) (.type "list") := .base (.lst ha)
      refine ⟨_, rfl, rfl, _, rfl, iteDF (fun e => nomatch e) ⟨_, rfl, _, _, _, _, false, rfl, .ty _, hT, kit_ty (by decide +kernel), _, rfl, ?_⟩⟩
      refine ⟨_, rfl, _, _, _, _, false, rfl, .ty _, hT, kit_ty (by decide +kernel), _, rfl, ?_⟩
      refine ⟨_, rfl, _, _, _, _, false, rfl, .ty _, hT, kit_ty (by decide +kernel), _, rfl, ?_⟩
      refine ⟨Nat.zero_le _, fun P0 hP0 => ?_⟩
      have s0 := same_new hP0 (.lst [])
      have hT0 : TyX K (upd H P0 (.lst [])) (.ref a) (.type "list") := .base (.lst (s0 _ _ ha))
      refine ⟨_, rfl, ?_⟩
      refine ⟨fun σ H' => σ = [some (.ref a), some (.ref P0), some (.ref a), some (.int 7), none, none, none] ∧ H' = upd H P0 (.lst []), ?_, ?_⟩
      · exact ⟨_, rfl, _, _, _, _, true, rfl, .ty _, hT0, kit_ty (by decide +kernel), _, rfl, iteT ⟨rfl, rfl⟩⟩
      rintro σ H0 ⟨rfl, rfl⟩
      refine ⟨_, rfl, _, _, _, _, false, rfl, .ty _, hT0, kit_ty (by decide +kernel), _, rfl, ?_⟩
      refine iteF ?_
      have lx : xs.length = gs.length := r.length
      have pl := plen_3 (n := m) (by omega)
      have sm : ∀ i, i ≤ gs.length → (packL (gs.take i)).length ≤ 4 * plen m := fun i hi => by
        have h1 := packL_len (n := m) (gs := gs.take i) fun g hg => okg g (List.mem_of_mem_take hg)
        have h2 : (gs.take i).length * plen m ≤ 4 * plen m := Nat.mul_le_mul_right _ (by rw [List.length_take]; omega)
        omega
      refine .inl ⟨_, rfl, a, rfl, ⟨_, SqL.of (s0 _ _ ha)⟩, for_list (K := K) (a := a) (xs := xs) (fun i σ H' => (∃ v Pi, σ = [some (.ref a), some (.ref Pi), some (.ref a), some (.int 7), none, none, v] ∧ H' Pi = some (.lst ((packL (gs.take i)).map V.int))) ∧ Same H H') ⟨⟨none, P0, rfl, upd_same⟩, s0⟩ (fun i σ H' _ hh => SqL.of (hh.2 _ _ ha)) ?_ ?_⟩
      · rintro i x σ H3 hi ⟨⟨v, Pi, rfl, h3⟩, s3⟩
        obtain ⟨g1, E1, e1, p1, i1⟩ := r.get hi
        have hg := okg g1 (List.mem_of_getElem? e1)
        have hil : i < gs.length := (List.getElem?_eq_some_iff.mp e1).1
        refine ⟨_, rfl, _, rfl, x, g1, E1, rfl, p1.mono s3, hg, by omega, fun p H4 h4 s4 _ => ?_⟩
        refine ⟨_, _, _, _, rfl, rfl, s4 _ _ h3, h4, ?_, fun w hw => ?_⟩
        · have b1 := sm i (by omega)
          have b2 := pack_len hg
          rw [List.length_map, List.length_map]
          exact small6 (by omega)
        refine ⟨⟨_, w, rfl, ?_⟩, (s3.trans s4).trans (same_new hw _)⟩
        rw [upd_same, packL_take e1, List.map_append]
      · rintro σ H3 ⟨⟨v, Pi, rfl, h3⟩, s3⟩
        rw [lx, List.take_length] at h3
        refine ⟨_, rfl, (by show 1 ≤ sizeLine; decide), fun L hL => ?_⟩
        have s4 := s3.trans (same_new hL (.lst [V.int 7]))
        refine ⟨_, rfl, .inr (.inl ⟨a, _, rfl, .inl (SqL.of (s4 _ _ ha)), xs.length, 2, rfl, by decide, fun p H4 h4 s5 n5 => ?_⟩)⟩
        rw [lx] at h4
        refine ⟨_, _, _, _, rfl, rfl, s5 _ _ upd_same, h4, ?_, fun w hw => ?_⟩
        · rw [List.length_map, nb_len]; show 1 + 2 ≤ sizeLine; decide
        have s6 := (s4.trans s5).trans (same_new hw (.lst ([V.int 7] ++ (nb gs.length 2).map V.int)))
        have h3' := same_new hw (.lst ([V.int 7] ++ (nb gs.length 2).map V.int)) _ _ (s5 _ _ (same_new hL (.lst [V.int 7]) _ _ h3))
        refine ⟨_, rfl, _, _, _, _, rfl, rfl, upd_same, h3', ?_, fun u hu1 => ?_⟩
        · have b1 := sm gs.length (Nat.le_refl _)
          rw [List.take_length] at b1
          rw [List.length_append, List.length_map, nb_len, List.length_map]
          exact small6 (by show 1 + 2 + (packL gs).length ≤ 1000000; omega)
        rw [packM] at q
        refine q u _ ?_ (s6.trans (same_new hu1 _)) (s6.free hu1)
        rw [upd_same]
        simp
    | @d m ks l4 nd okk okg =>
      cases hg with
      | @d a kvs _ D ha hn nd2 r aD =>
      have hT : TyX K H (.ref a) (.type "dict") := .base (.dK ha)
      refine ⟨_, rfl, rfl, _, rfl, iteDF (fun e => nomatch e) ⟨_, rfl, _, _, _, _, false, rfl, .ty _, hT, kit_ty (by decide +kernel), _, rfl, ?_⟩⟩
      refine ⟨_, rfl, _, _, _, _, false, rfl, .ty _, hT, kit_ty (by decide +kernel), _, rfl, ?_⟩
      refine ⟨_, rfl, _, _, _, _, false, rfl, .ty _, hT, kit_ty (by decide +kernel), _, rfl, ?_⟩
      refine ⟨Nat.zero_le _, fun P0 hP0 => ?_⟩
      have s2 := same_new hP0 (.lst [])
      have ha2 := s2 _ _ ha
      have hT0 : TyX K (upd H P0 (.lst [])) (.ref a) (.type "dict") := .base (.dK ha2)
      have hP2 : (upd H P0 (.lst [])) P0 = some (.lst []) := upd_same
      have lk : kvs.length = ks.length := by have := congrArg List.length r.keys; simpa using this
      have ekeys : kvs.map (·.1) = ks.map (·.1) := r.keys
      generalize upd H P0 (.lst []) = H2 at s2 ha2 hT0 hP2 ⊢
      refine ⟨_, rfl, ?_⟩
      refine ⟨fun σ H' => σ = [some (.ref a), some (.ref P0), some (.ref a), some (.int 6), none, none, none] ∧ H' = H2, ?_, ?_⟩
      · exact ⟨_, rfl, _, _, _, _, false, rfl, .ty _, hT0, kit_ty (by decide +kernel), _, rfl, iteF ⟨rfl, rfl⟩⟩
      rintro σ H0 ⟨rfl, rfl⟩
      refine ⟨_, rfl, _, _, _, _, true, rfl, .ty _, hT0, kit_ty (by decide +kernel), _, rfl, ?_⟩
      refine iteT ?_
      refine ⟨a, .dK kvs, ha2, True.intro, fun od => ?_⟩
      refine ⟨_, rfl, a, od, rfl, .inl ⟨kvs, upd_same, fun N hN => inner walk_keys (fun i H' => H' N = some (.lst ((intK ((kvs.map (·.1)).take i)).map kV)) ∧ H' a = some (.frz od (.dK kvs)) ∧ Same (upd H0 a (.frz od (.dK kvs))) H') ⟨upd_same, by rw [upd_ne (fun z => by rw [← z, upd_same] at hN; cases hN)]; exact upd_same, same_new hN _⟩ (fun i H' _ hh => hh.2.1) ?_ ?_⟩⟩
      · rintro i x H3 H3' hi ⟨h3, h4, s3⟩ ⟨rfl, key, wv, ek, rfl⟩
        have eki : (kvs.map (·.1))[i]? = some key := by rw [List.getElem?_map, ek]; rfl
        have Na : a ≠ N := fun z => by rw [z, h3] at h4; cases h4
        cases key with
        | inl m =>
          refine ⟨rfl, _, rfl, _, _, _, _, false, rfl, .ty _, .base (.int _), kit_ty (by decide +kernel), _, rfl, ?_⟩
          refine ⟨_, rfl, _, h3, ?_, ?_, ?_, same_upd hN _ s3⟩
          · rw [List.length_map]
            have := intK_len ((kvs.map (·.1)).take i)
            rw [List.length_take, List.length_map] at this
            exact small1000 (by omega)
          · rw [upd_same, (intK_take_int eki).1, List.map_append]; rfl
          · rw [upd_ne Na]; exact h4
        | inr y =>
          refine ⟨rfl, _, rfl, _, _, _, _, true, rfl, .ty _, .base (.str _), kit_ty (by decide +kernel), _, rfl, ?_⟩
          refine ⟨?_, h4, s3⟩
          rw [(intK_take_str eki).1]; exact h3
      rintro H3 ⟨h3, h4, s3⟩
      rw [← List.length_map (f := (·.1)), List.take_length, ekeys] at h3
      refine ⟨h4, ?_⟩
      have s4 := unlock_same ha2 s3
      have Na : N ≠ a := fun z => by rw [z, h4] at h3; cases h3
      have h3' : (upd H3 a (.dK kvs)) N = some (.lst ((intK (ks.map (·.1))).map kV)) := by rw [upd_ne Na]; exact h3
      generalize upd H3 a (.dK kvs) = H4 at s4 h3' ⊢
      obtain ⟨ns, ens⟩ := keys_ints (ks.map (·.1))
      obtain ⟨xs, exs⟩ := keys_strs (ks.map (·.1))
      rw [ens, kV_int] at h3'
      refine ⟨N, ns, rfl, SqL.of h3', fun ns' P1 pm1 st1 nP1 => ?_⟩
      have s5 := s4.trans (same_new nP1 (.lst (ns'.map V.int)))
      have hP1 : (upd H4 P1 (.lst (ns'.map V.int))) P1 = some (.lst (ns'.map V.int)) := upd_same
      generalize upd H4 P1 (.lst (ns'.map V.int)) = H5' at s5 hP1 ⊢
      refine ⟨Nat.zero_le _, fun I0 hI0 => ?_⟩
      have s5 := s5.trans (same_new hI0 (.lst []))
      have hP1 := same_new hI0 (.lst []) _ _ hP1
      generalize upd H5' I0 (.lst []) = H5 at s5 hP1 ⊢
      have ha5 := s5 _ _ ha2
      refine ⟨_, rfl, a, .dK kvs, ha5, True.intro, fun oe => ?_⟩
      refine ⟨_, rfl, a, oe, rfl, .inl ⟨kvs, upd_same, fun M hM => inner walk_keys (fun i H' => H' M = some (.lst ((strK ((kvs.map (·.1)).take i)).map kV)) ∧ H' a = some (.frz oe (.dK kvs)) ∧ Same (upd H5 a (.frz oe (.dK kvs))) H') ⟨upd_same, by rw [upd_ne (fun z => by rw [← z, upd_same] at hM; cases hM)]; exact upd_same, same_new hM _⟩ (fun i H' _ hh => hh.2.1) ?_ ?_⟩⟩
      · rintro i x H6 H6' hi ⟨h6, h7, s6⟩ ⟨rfl, key, wv, ek, rfl⟩
        have eki : (kvs.map (·.1))[i]? = some key := by rw [List.getElem?_map, ek]; rfl
        have Ma : a ≠ M := fun z => by rw [z, h6] at h7; cases h7
        cases key with
        | inr y =>
          refine ⟨rfl, _, rfl, _, _, _, _, true, rfl, .ty _, .base (.str _), kit_ty (by decide +kernel), _, rfl, ?_⟩
          refine ⟨_, rfl, _, h6, ?_, ?_, ?_, same_upd hM _ s6⟩
          · rw [List.length_map]
            have := strK_len ((kvs.map (·.1)).take i)
            rw [List.length_take, List.length_map] at this
            exact small1000 (by omega)
          · rw [upd_same, (intK_take_str eki).2, List.map_append]; rfl
          · rw [upd_ne Ma]; exact h7
        | inl m =>
          refine ⟨rfl, _, rfl, _, _, _, _, false, rfl, .ty _, .base (.int _), kit_ty (by decide +kernel), _, rfl, ?_⟩
          refine ⟨?_, h7, s6⟩
          rw [(intK_take_int eki).2]; exact h6
      rintro H6 ⟨h6, h7, s6⟩
      rw [← List.length_map (f := (·.1)), List.take_length, ekeys] at h6
      refine ⟨h7, ?_⟩
      have s7 := unlock_same ha5 s6
      have Ma : M ≠ a := fun z => by rw [z, h7] at h6; cases h6
      have h6' : (upd H6 a (.dK kvs)) M = some (.lst ((strK (ks.map (·.1))).map kV)) := by rw [upd_ne Ma]; exact h6
      generalize upd H6 a (.dK kvs) = H7 at s7 h6' ⊢
      rw [exs, kV_str] at h6'
      have lxs : xs.length ≤ 4 := by
        have := strK_len (ks.map (·.1))
        rw [exs, List.length_map, List.length_map] at this
        omega
      have lns : ns.length ≤ 4 := by
        have := intK_len (ks.map (·.1))
        rw [ens, List.length_map, List.length_map] at this
        omega
      refine ⟨M, xs, rfl, SqL.of h6', by omega, fun xs' P2 pm2 st2 nP2 => ?_⟩
      have s8 := s7.trans (same_new nP2 (.lst (xs'.map V.str)))
      have hP2' : (upd H7 P2 (.lst (xs'.map V.str))) P2 = some (.lst (xs'.map V.str)) := upd_same
      generalize upd H7 P2 (.lst (xs'.map V.str)) = H8 at s8 hP2' ⊢
      refine ⟨_, _, _, _, rfl, rfl, s8 _ _ hP1, hP2', ?_, fun U hU => ?_⟩
      · rw [List.length_map, List.length_map, pm1.length_eq, pm2.length_eq]; exact Nat.le_of_lt (small1000 (by omega))
      rw [keys_join ens exs pm1 st1 pm2 st2]
      have hU9 : (upd H8 U (.lst ((sortK (ks.map (·.1))).map kV))) U = some (.lst ((sortK (ks.map (·.1))).map kV)) := upd_same
      have s9 := s8.trans (same_new hU (.lst ((sortK (ks.map (·.1))).map kV)))
      generalize upd H8 U (.lst ((sortK (ks.map (·.1))).map kV)) = H9 at s9 hU9 ⊢
      have S9 := s2.trans (s5.trans s9)
      have pl := plen_3 (n := m) (by omega)
      have lsk : (sortK (ks.map (·.1))).length = ks.length := by rw [sortK_len, List.length_map]
      refine ⟨U, rfl, ⟨_, SqL.of hU9⟩, for_list (K := K) (a := U) (xs := (sortK (ks.map (·.1))).map kV) (fun i σ H' => (∃ v Pi, σ = [some (.ref a), some (.ref Pi), some (.ref I0), some (.int 8), v, some (.ref P1), none] ∧ H' Pi = some (.lst ((((sortK (ks.map (·.1))).take i).flatMap (entD ks)).map V.int))) ∧ Same H9 H') ⟨⟨none, P0, rfl, s9 _ _ (s5 _ _ hP2)⟩, Same.refl _⟩ (fun i σ H' _ hh => SqL.of (hh.2 _ _ hU9)) ?_ ?_⟩
      · rintro i x σ H10 hi ⟨⟨v, Pi, rfl, h10⟩, s10⟩
        obtain ⟨key, ek, rfl⟩ : ∃ key, (sortK (ks.map (·.1)))[i]? = some key ∧ x = kV key := by
          rw [List.getElem?_map] at hi
          cases e : (sortK (ks.map (·.1)))[i]? with
          | none => rw [e] at hi; cases hi
          | some k0 => rw [e] at hi; cases hi; exact ⟨k0, rfl, rfl⟩
        have hk : key ∈ ks.map (·.1) := sortK_mem.mp (List.mem_of_getElem? ek)
        have hil : i < ks.length := by rw [← lsk]; exact (List.getElem?_eq_some_iff.mp ek).1
        have hm := lkG_in hk
        have ok1 : okS (kV key) := okk _ hm
        have ok2 : DOk m (lkG ks key) := okg _ hm
        have b1 := ents_len (xs := (sortK (ks.map (·.1))).take i) okk okg fun k0 hk0 => sortK_mem.mp (List.mem_of_mem_take hk0)
        have b2 : ((sortK (ks.map (·.1))).take i).length * (403 + plen m) ≤ 4 * (403 + plen m) := Nat.mul_le_mul_right _ (by rw [List.length_take]; omega)
        have b3 := packS_len ok1
        have b4 := pack_len ok2
        have ep : packM (.s (kV key)) = packS (kV key) := by rw [packM]
        refine ⟨_, rfl, _, rfl, kV key, .s (kV key), [], rfl, .s ok1.scal, .s ok1, by omega, fun p H11 h11 s11 _ => ?_⟩
        rw [ep] at h11
        refine ⟨_, _, _, _, rfl, rfl, s11 _ _ h10, h11, ?_, fun w hw => ?_⟩
        · rw [List.length_map, List.length_map]
          exact small6 (by omega)
        rw [← List.map_append]
        have s12 := (s10.trans s11).trans (same_new hw (.lst ((((sortK (ks.map (·.1))).take i).flatMap (entD ks) ++ packS (kV key)).map V.int)))
        have h12 : (upd H11 w (.lst ((((sortK (ks.map (·.1))).take i).flatMap (entD ks) ++ packS (kV key)).map V.int))) w = some (.lst ((((sortK (ks.map (·.1))).take i).flatMap (entD ks) ++ packS (kV key)).map V.int)) := upd_same
        generalize upd H11 w (.lst ((((sortK (ks.map (·.1))).take i).flatMap (entD ks) ++ packS (kV key)).map V.int)) = H12 at s12 h12 ⊢
        obtain ⟨v2, E2, ev2, p2, i2⟩ := r.lk nd hk
        have gd : DGet H12 a (kV key) (some v2) := by
          have g := DGet.k (k := key) ((S9.trans s12) _ _ ha)
          rw [ev2] at g; exact g
        refine ⟨_, rfl, _, rfl, a, v2, rfl, gd, v2, lkG ks key, E2, rfl, p2.mono (S9.trans s12), ok2, by omega, fun p' H13 h13 s13 _ => ?_⟩
        refine ⟨_, _, _, _, rfl, rfl, s13 _ _ h12, h13, ?_, fun w' hw' => ?_⟩
        · rw [List.length_map, List.length_map, List.length_append]
          exact small6 (by omega)
        refine ⟨⟨_, w', rfl, ?_⟩, (s12.trans s13).trans (same_new hw' _)⟩
        rw [upd_same, ent_take ek, ← List.map_append]
        unfold entD
        simp only [List.append_assoc]
      · rintro σ H10 ⟨⟨v, Pi, rfl, h10⟩, s10⟩
        rw [List.length_map, List.take_length] at h10
        have S10 := S9.trans s10
        refine ⟨(by show 1 ≤ sizeLine; decide), fun L hL => ?_⟩
        have s11 := S10.trans (same_new hL (.lst [V.int 8]))
        refine ⟨_, rfl, .inr (.inr ⟨a, kvs, rfl, s11 _ _ ha, kvs.length, 2, rfl, by decide, fun p H12 h12 s12 n12 => ?_⟩)⟩
        rw [lk] at h12
        refine ⟨_, _, _, _, rfl, rfl, s12 _ _ upd_same, h12, ?_, fun w hw => ?_⟩
        · rw [List.length_map, nb_len]; show 1 + 2 ≤ sizeLine; decide
        have s13 := (s11.trans s12).trans (same_new hw (.lst ([V.int 8] ++ (nb ks.length 2).map V.int)))
        have h10' := same_new hw (.lst ([V.int 8] ++ (nb ks.length 2).map V.int)) _ _ (s12 _ _ (same_new hL (.lst [V.int 8]) _ _ h10))
        have b1 := ents_len (xs := sortK (ks.map (·.1))) okk okg fun k0 hk0 => sortK_mem.mp hk0
        have b2 : (sortK (ks.map (·.1))).length * (403 + plen m) ≤ 4 * (403 + plen m) := Nat.mul_le_mul_right _ (by omega)
        refine ⟨_, rfl, _, _, _, _, rfl, rfl, upd_same, h10', ?_, fun u hu1 => ?_⟩
        · rw [List.length_append, List.length_map, nb_len, List.length_map]
          exact small6 (by show 1 + 2 + _ ≤ 1000000; omega)
        refine q u _ ?_ (s13.trans (same_new hu1 _)) (s13.free hu1)
        rw [upd_same, packM_dD]
        simp)
theorem ok_law_lpacks {f gb gc : Addr} {fd gbd gcd : FuncData} (k : Kn K mg "_law_pack" s_law_pack ["data"] f fd) (z : Z mg)
    (c_law_bytes : Cal P w K mg base 1 "_law_bytes" ["number", "size"] spNB gb gbd)
    (c_law_codes : Cal P w K mg base 1 "_law_codes" ["text"] spCodes gc gcd) : ∀ n : Nat, Cal P w K mg base (n + 2) "_law_pack" ["data"] (spPack n) f fd
  | 0 => k.cal no_lpack
  | n + 1 => ok_lpack k z c_law_bytes c_law_codes (ok_law_lpacks k z c_law_bytes c_law_codes n)
theorem ok_law_is_integer {f : Addr} {fd : FuncData} (k : Kn K mg "_law_is_integer" s_law_is_integer ["actual"] f fd) (z : Z mg) :
    Cal P w K mg base 1 "_law_is_integer" ["actual"] (spIsInt) f fd := k.cal (by
  refine k.F.ok sc_law_is_integer (fun vs H Q E h => ?_) (fun cdv A outer s H vs Q E hr h => ?_)
  · obtain ⟨x, rfl, _⟩ := h; rfl
  · obtain ⟨x, rfl, hx, q⟩ := h
    refine ⟨_, (pss_one (ps_ret (pe_and (pe_callB call_isi (by rfl) z.isinstance (by decide +kernel) (pa_cons (pv 0) (pa_cons (pe_bltn (v := .ty "int") (u := .type "int") (by rfl) z.int (by decide +kernel) rfl) pa_nil))) (pe_one (pe_not (pe_callB call_isi (by rfl) z.isinstance (by decide +kernel) (pa_cons (pv 0) (pa_cons (pe_bltn (v := .ty "bool") (u := .type "bool") (by rfl) z.bool (by decide +kernel) rfl) pa_nil)))))))), ?_⟩
    obtain ⟨t, hT, c⟩ := ty_scal (K := K) (H := H) hx
    rcases c with ⟨rfl, rfl⟩ | ⟨⟨b, rfl⟩, rfl⟩ | ⟨⟨i, rfl⟩, rfl⟩ | ⟨⟨y, rfl⟩, rfl⟩
    · exact ⟨_, rfl, _, _, _, _, false, rfl, .ty _, hT, kit_ty (by decide +kernel), ⟨_, rfl, q⟩⟩
    · exact ⟨_, rfl, _, _, _, _, true, rfl, .ty _, hT, kit_ty (by decide +kernel), ⟨_, rfl, ⟨_, rfl, _, _, _, _, true, rfl, .ty _, hT, kit_ty (by decide +kernel), ⟨_, rfl, q⟩⟩⟩⟩
    · exact ⟨_, rfl, _, _, _, _, true, rfl, .ty _, hT, kit_ty (by decide +kernel), ⟨_, rfl, ⟨_, rfl, _, _, _, _, false, rfl, .ty _, hT, kit_ty (by decide +kernel), ⟨_, rfl, q⟩⟩⟩⟩
    · exact ⟨_, rfl, _, _, _, _, false, rfl, .ty _, hT, kit_ty (by decide +kernel), ⟨_, rfl, q⟩⟩)

theorem no_same {f : Addr} {fd : FuncData} : FnOk P w K mg base CX0 0 f fd ["actual", "expected"] (spSameE 0) := by
  have no : ∀ vs H Q E, ¬ spSameE 0 vs H Q E := fun vs H Q E h => by
    rcases h with ⟨x, y, g, g', D, E', _, _, _, _, _, h1, _⟩ | ⟨h1, _⟩
    · exact Nat.not_lt_zero _ h1
    · omega
  exact ⟨fun vs H Q E h => absurd h (no vs H Q E), fun A outer s H args us vs Q E _ _ _ _ h => absurd h (no vs H Q E)⟩
theorem ok_items {n : Nat} {f g : Addr} {fd gd : FuncData} (k : Kn K mg "_law_same_items" s_law_same_items ["actual", "expected"] f fd) (z : Z mg)
    (c_law_same : Cal P w K mg base (2 * n) "_law_same" ["actual", "expected"] (spSameE n) g gd) : Cal P w K mg base (2 * n + 1) "_law_same_items" ["actual", "expected"] (spItemsE n) f fd := k.cal (by
  refine k.F.ok sc_law_same_items (fun vs H Q E h => ?_) (fun cdv A outer s H vs Q E hr h => ?_)
  · obtain ⟨a, b, xs, ys, rfl, _⟩ := h; rfl
  · obtain ⟨a, b, xs, ys, rfl, hk, hl, h1, each, q⟩ := h
    have A1 : SqL K H a xs ∨ SqT K H a xs := by rcases hk with hk | hk; exact .inl (SqL.of hk.1); exact .inr (SqT.of hk.1)
    have B1 : SqL K H b ys ∨ SqT K H b ys := by rcases hk with hk | hk; exact .inl (SqL.of hk.2); exact .inr (SqT.of hk.2)
    refine ⟨_, (pss_cons (ps_if (pt_cmpR op_ne (pe_callB call_len_seq (by rfl) z.len (by decide +kernel) (pa_cons (pv 0) pa_nil)) (pe_callB call_len_seq (by rfl) z.len (by decide +kernel) (pa_cons (pv 1) pa_nil)) (nomark _)) (pss_one (ps_ret pe_bl)) pss_nil)
    (pss_cons (ps_for PassesOwn.never rfl (pi_range1 (by rfl) z.range (pa_cons (pe_callB call_len_seq (by rfl) z.len (by decide +kernel) (pa_cons (pv 1) pa_nil)) pa_nil)) (pg_name (i := 2) sc_law_same_items.nd rfl (Or.inl rfl))
    (pss_one (ps_if (pt_not (pt_val (pe_call c_law_same.G (hr.mono (by omega)) (by rfl) c_law_same.m c_law_same.kp c_law_same.b .nil pass0 (pa_cons (pe_ix ix_seq (pv 0) (pv 2) (fun _ _ => rfl)) (pa_cons (pe_ix ix_seq (pv 1) (pv 2) (fun _ _ => rfl)) pa_nil))))) (pss_one (ps_ret pe_bl)) pss_nil)))
    (pss_one (ps_ret pe_bl)))), ?_⟩
    refine ⟨_, rfl, a, _, rfl, A1, _, rfl, b, _, rfl, B1, rfl, _, rfl, ?_⟩
    refine iteNS (by rw [hl]) ?_
    refine ⟨_, rfl, b, _, rfl, B1, _, rfl, (by omega), (by omega), for_range (lo := 0) (n := ys.length) (fun i σ H2 => (∃ v, σ = [some (.ref a), some (.ref b), v]) ∧ H2 = H) ⟨⟨none, rfl⟩, rfl⟩ ?_ ?_⟩
    · rintro i σ H2 hi ⟨⟨v, rfl⟩, rfl⟩
      have hx : xs[i]? = some xs[i] := List.getElem?_eq_getElem (by omega)
      have hy : ys[i]? = some ys[i] := List.getElem?_eq_getElem hi
      obtain ⟨g1, g2, E1, E2, p1, p2, ge, hdis, hd⟩ := each i _ _ hx hy
      refine ⟨_, rfl, _, rfl, ixq A1 (at_of (by omega) hx) ⟨_, rfl, _, rfl, ixq B1 (at_of (by omega) hy) (.inl ⟨_, _, g1, g2, E1, E2, rfl, p1, p2, ge, hdis, hd, ⟨_, rfl, ?_⟩⟩)⟩⟩
      exact iteF ⟨⟨_, rfl⟩, rfl⟩
    · rintro σ H2 ⟨⟨v, rfl⟩, rfl⟩
      exact q)
theorem ok_same {n : Nat} {f g i : Addr} {fd gd ii : FuncData} (k : Kn K mg "_law_same" s_law_same ["actual", "expected"] f fd) (z : Z mg)
    (c_law_same : Cal P w K mg base (2 * n) "_law_same" ["actual", "expected"] (spSameE n) f fd)
    (c_law_is_integer : Cal P w K mg base 1 "_law_is_integer" ["actual"] spIsInt i ii)
    (c_law_same_items : Cal P w K mg base (2 * n + 1) "_law_same_items" ["actual", "expected"] (spItemsE n) g gd) : Cal P w K mg base (2 * n + 2) "_law_same" ["actual", "expected"] (spSameE (n + 1)) f fd := k.cal (by
  refine k.F.ok sc_law_same (fun vs H Q E h => ?_) (fun cdv A outer s H vs Q E hr h => ?_)
  · rcases h with ⟨x, y, g, g', D, E', rfl, _⟩ | ⟨_, a, b, ns, rfl, _⟩ <;> rfl
  · have hu := hu_of hr
    refine ⟨_, (pss_cons (ps_if (pt_cmpR op_isN (pv 1) pe_non (nomark _)) (pss_one (ps_ret (pe_cmpR op_isN (pv 0) pe_non (nomark _)))) pss_nil)
    (pss_cons (ps_if (pt_val (pe_callB call_isi (by rfl) z.isinstance (by decide +kernel) (pa_cons (pv 1) (pa_cons (pe_bltn (v := .ty "bool") (u := .type "bool") (by rfl) z.bool (by decide +kernel) rfl) pa_nil)))) (pss_one (ps_ret (pe_and (pe_callB call_isi (by rfl) z.isinstance (by decide +kernel) (pa_cons (pv 0) (pa_cons (pe_bltn (v := .ty "bool") (u := .type "bool") (by rfl) z.bool (by decide +kernel) rfl) pa_nil))) (pe_one (pe_cmpR op_eq (pv 0) (pv 1) (nomark _)))))) pss_nil)
    (pss_cons (ps_if (pt_val (pe_callB call_isi (by rfl) z.isinstance (by decide +kernel) (pa_cons (pv 1) (pa_cons (pe_bltn (v := .ty "int") (u := .type "int") (by rfl) z.int (by decide +kernel) rfl) pa_nil)))) (pss_one (ps_ret (pe_and (pe_call c_law_is_integer.G (hr.mono (by omega)) (by rfl) c_law_is_integer.m c_law_is_integer.kp c_law_is_integer.b .nil pass0 (pa_cons (pv 0) pa_nil)) (pe_one (pe_cmpR op_eq (pv 0) (pv 1) (nomark _)))))) pss_nil)
    (pss_cons (ps_if (pt_val (pe_callB call_isi (by rfl) z.isinstance (by decide +kernel) (pa_cons (pv 1) (pa_cons (pe_bltn (v := .ty "str") (u := .type "str") (by rfl) z.str (by decide +kernel) rfl) pa_nil)))) (pss_one (ps_ret (pe_and (pe_callB call_isi (by rfl) z.isinstance (by decide +kernel) (pa_cons (pv 0) (pa_cons (pe_bltn (v := .ty "str") (u := .type "str") (by rfl) z.str (by decide +kernel) rfl) pa_nil))) (pe_one (pe_cmpR op_eq (pv 0) (pv 1) (nomark _)))))) pss_nil)
    (pss_cons (ps_if (pt_val (pe_callB call_isi (by rfl) z.isinstance (by decide +kernel) (pa_cons (pv 1) (pa_cons (pe_bltn (v := .ty "tuple") (u := .type "tuple") (by rfl) z.tuple (by decide +kernel) rfl) pa_nil)))) (pss_one (ps_ret (pe_and (pe_callB call_isi (by rfl) z.isinstance (by decide +kernel) (pa_cons (pv 0) (pa_cons (pe_bltn (v := .ty "tuple") (u := .type "tuple") (by rfl) z.tuple (by decide +kernel) rfl) pa_nil))) (pe_one (pe_call c_law_same_items.G (hr.mono (by omega)) (by rfl) c_law_same_items.m c_law_same_items.kp c_law_same_items.b .nil pass0 (pa_cons (pv 0) (pa_cons (pv 1) pa_nil))))))) pss_nil)
    (pss_cons (ps_if (pt_val (pe_callB call_isi (by rfl) z.isinstance (by decide +kernel) (pa_cons (pv 1) (pa_cons (pe_bltn (v := .ty "list") (u := .type "list") (by rfl) z.list (by decide +kernel) rfl) pa_nil)))) (pss_one (ps_ret (pe_and (pe_callB call_isi (by rfl) z.isinstance (by decide +kernel) (pa_cons (pv 0) (pa_cons (pe_bltn (v := .ty "list") (u := .type "list") (by rfl) z.list (by decide +kernel) rfl) pa_nil))) (pe_one (pe_call c_law_same_items.G (hr.mono (by omega)) (by rfl) c_law_same_items.m c_law_same_items.kp c_law_same_items.b .nil pass0 (pa_cons (pv 0) (pa_cons (pv 1) pa_nil))))))) pss_nil)
    (pss_cons (ps_if (PW.pt (pw_or (pt_not (pt_val (pe_callB call_isi (by rfl) z.isinstance (by decide +kernel) (pa_cons (pv 0) (pa_cons (pe_bltn (v := .ty "dict") (u := .type "dict") (by rfl) z.dict (by decide +kernel) rfl) pa_nil))))) (pw_or1 (pt_cmpR op_ne (pe_callB call_lenD (by rfl) z.len (by decide +kernel) (pa_cons (pv 0) pa_nil)) (pe_callB call_lenD (by rfl) z.len (by decide +kernel) (pa_cons (pv 1) pa_nil)) (nomark _))))) (pss_one (ps_ret pe_bl)) pss_nil)
    (pss_cons (ps_lock (ps_for PassesOwn.never rfl (pi_keys (pv 1)) (pg_name (i := 2) sc_law_same.nd rfl (Or.inl rfl))
    (pss_one (ps_if (PW.pt (pw_or (pt_cmp (pc_dnotin hu (pv 2) (pv 0))) (pw_or1 (pt_not (pt_val (pe_call c_law_same.G (hr.mono (by omega)) (by rfl) c_law_same.m c_law_same.kp c_law_same.b .nil pass0 (pa_cons (pe_dget hu (pv 0) (pv 2) (fun _ _ => rfl)) (pa_cons (pe_dget hu (pv 1) (pv 2) (fun _ _ => rfl)) pa_nil)))))))) (pss_one (ps_ret pe_bl)) pss_nil))))
    (pss_cons (ps_lock (ps_for PassesOwn.never rfl (pi_keys (pv 0)) (pg_name (i := 2) sc_law_same.nd rfl (Or.inl rfl))
    (pss_one (ps_if (pt_val (pe_callB call_isi (by rfl) z.isinstance (by decide +kernel) (pa_cons (pv 2) (pa_cons (pe_bltn (v := .ty "bool") (u := .type "bool") (by rfl) z.bool (by decide +kernel) rfl) pa_nil)))) (pss_one (ps_ret pe_bl)) pss_nil))))
    (pss_one (ps_ret pe_bl))))))))))), ?_⟩
    rcases h with ⟨x, y, g, g', D, E', rfl, hx, hy, ge, hdis, hdep, q⟩ | ⟨n2, a, b, ns, rfl, ha, hb, hl, q⟩
    · cases ge with
      | s v =>
        cases hx with
        | s hs =>
        cases hy with
        | s _ =>
        obtain ⟨t, hT, c⟩ := ty_scal (K := K) (H := H) hs
        rcases c with ⟨rfl, rfl⟩ | ⟨⟨b, rfl⟩, rfl⟩ | ⟨⟨i, rfl⟩, rfl⟩ | ⟨⟨y, rfl⟩, rfl⟩
        · exact ⟨_, rfl, rfl, _, rfl, iteDT rfl ⟨_, rfl, rfl, bl_T rfl q⟩⟩
        · refine ⟨_, rfl, rfl, _, rfl, iteDF (fun e => nomatch e) ⟨_, rfl, _, _, _, _, true, rfl, .ty _, hT, kit_ty (by decide +kernel), ⟨_, rfl, ?_⟩⟩⟩
          exact ⟨_, rfl, _, _, _, _, true, rfl, .ty _, hT, kit_ty (by decide +kernel), ⟨_, rfl, ⟨_, rfl, _, rfl, rfl, bl_T rfl q⟩⟩⟩
        · refine ⟨_, rfl, rfl, _, rfl, iteDF (fun e => nomatch e) ⟨_, rfl, _, _, _, _, false, rfl, .ty _, hT, kit_ty (by decide +kernel), ⟨_, rfl, ?_⟩⟩⟩
          refine ⟨_, rfl, _, _, _, _, true, rfl, .ty _, hT, kit_ty (by decide +kernel), ⟨_, rfl, ?_⟩⟩
          exact ⟨_, rfl, _, rfl, rfl, ⟨_, rfl, ⟨_, rfl, _, rfl, rfl, bl_T rfl q⟩⟩⟩
        · refine ⟨_, rfl, rfl, _, rfl, iteDF (fun e => nomatch e) ⟨_, rfl, _, _, _, _, false, rfl, .ty _, hT, kit_ty (by decide +kernel), ⟨_, rfl, ?_⟩⟩⟩
          refine ⟨_, rfl, _, _, _, _, false, rfl, .ty _, hT, kit_ty (by decide +kernel), ⟨_, rfl, ?_⟩⟩
          refine ⟨_, rfl, _, _, _, _, true, rfl, .ty _, hT, kit_ty (by decide +kernel), ⟨_, rfl, ?_⟩⟩
          exact ⟨_, rfl, _, _, _, _, true, rfl, .ty _, hT, kit_ty (by decide +kernel), ⟨_, rfl, ⟨_, rfl, _, rfl, rfl, bl_T rfl q⟩⟩⟩
      | @l gs hs lg hg =>
        cases hx with
        | @l a xs _ D hxa hn rx =>
        cases hy with
        | @l b ys _ E2 hyb hm ry =>
        have hA : TyX K H (.ref a) (.type "list") := .base (.lst hxa)
        have hB : TyX K H (.ref b) (.type "list") := .base (.lst hyb)
        have hd : ∀ g ∈ hs, g.dep < n := fun g hg => by have := depL_mem hg; simp only [G.dep] at hdep; omega
        refine ⟨_, rfl, rfl, _, rfl, iteDF (fun e => nomatch e) ⟨_, rfl, _, _, _, _, false, rfl, .ty _, hB, kit_ty (by decide +kernel), ⟨_, rfl, ?_⟩⟩⟩
        refine ⟨_, rfl, _, _, _, _, false, rfl, .ty _, hB, kit_ty (by decide +kernel), ⟨_, rfl, ?_⟩⟩
        refine ⟨_, rfl, _, _, _, _, false, rfl, .ty _, hB, kit_ty (by decide +kernel), ⟨_, rfl, ?_⟩⟩
        refine ⟨_, rfl, _, _, _, _, false, rfl, .ty _, hB, kit_ty (by decide +kernel), ⟨_, rfl, ?_⟩⟩
        refine ⟨_, rfl, _, _, _, _, true, rfl, .ty _, hB, kit_ty (by decide +kernel), ⟨_, rfl, ?_⟩⟩
        refine ⟨_, rfl, _, _, _, _, true, rfl, .ty _, hA, kit_ty (by decide +kernel), ⟨_, rfl, ⟨_, rfl, _, rfl, a, b, xs, ys, rfl, .inl ⟨hxa, hyb⟩, by rw [rx.length, ry.length, lg], by omega, fun i x y ex ey => ?_, q⟩⟩⟩
        obtain ⟨g1, F1, e1, p1, i1⟩ := rx.get ex
        obtain ⟨g2, F2, e2, p2, i2⟩ := ry.get ey
        exact ⟨g1, g2, F1, F2, p1, p2, hg i g1 g2 e1 e2, fun c h1 h2 => hdis c (List.mem_cons_of_mem _ (i1 c h1)) (List.mem_cons_of_mem _ (i2 c h2)), hd g2 (List.mem_of_getElem? e2)⟩
      | @t gs hs lg hg =>
        cases hx with
        | @t a xs _ D hxa hn rx =>
        cases hy with
        | @t b ys _ E2 hyb hm ry =>
        have hA : TyX K H (.ref a) (.type "tuple") := .base (.tup hxa)
        have hB : TyX K H (.ref b) (.type "tuple") := .base (.tup hyb)
        have hd : ∀ g ∈ hs, g.dep < n := fun g hg => by have := depL_mem hg; simp only [G.dep] at hdep; omega
        refine ⟨_, rfl, rfl, _, rfl, iteDF (fun e => nomatch e) ⟨_, rfl, _, _, _, _, false, rfl, .ty _, hB, kit_ty (by decide +kernel), ⟨_, rfl, ?_⟩⟩⟩
        refine ⟨_, rfl, _, _, _, _, false, rfl, .ty _, hB, kit_ty (by decide +kernel), ⟨_, rfl, ?_⟩⟩
        refine ⟨_, rfl, _, _, _, _, false, rfl, .ty _, hB, kit_ty (by decide +kernel), ⟨_, rfl, ?_⟩⟩
        refine ⟨_, rfl, _, _, _, _, true, rfl, .ty _, hB, kit_ty (by decide +kernel), ⟨_, rfl, ?_⟩⟩
        refine ⟨_, rfl, _, _, _, _, true, rfl, .ty _, hA, kit_ty (by decide +kernel), ⟨_, rfl, ⟨_, rfl, _, rfl, a, b, xs, ys, rfl, .inr ⟨hxa, hyb⟩, by rw [rx.length, ry.length, lg], by omega, fun i x y ex ey => ?_, q⟩⟩⟩
        obtain ⟨g1, F1, e1, p1, i1⟩ := rx.get ex
        obtain ⟨g2, F2, e2, p2, i2⟩ := ry.get ey
        exact ⟨g1, g2, F1, F2, p1, p2, hg i g1 g2 e1 e2, fun c h1 h2 => hdis c (i1 c h1) (i2 c h2), hd g2 (List.mem_of_getElem? e2)⟩
      | @d ks ms fk lg hk hg =>
        cases hx with
        | @d a kvs _ D hxa hn nd rx fx =>
        cases hy with
        | @d b kws _ E2 hyb hm nd2 ry fy =>
        have hA : TyX K H (.ref a) (.type "dict") := .base (.dK hxa)
        have hB : TyX K H (.ref b) (.type "dict") := .base (.dK hyb)
        have hd : ∀ (k : Key) (g : G), (k, g) ∈ ms → g.dep < n := fun k g hg => by have := depK_mem hg; simp only [G.dep] at hdep; omega
        have hab : a ≠ b := fun e => by subst e; exact hdis a List.mem_cons_self List.mem_cons_self
        have hbD : b ∉ D := fun h => hdis b (List.mem_cons_of_mem _ h) List.mem_cons_self
        have hlen : kvs.length = kws.length := by
          have h1 := congrArg List.length rx.keys
          have h2 := congrArg List.length ry.keys
          rw [List.length_map, List.length_map] at h1 h2
          omega
        have ndk : (ks.map (·.1)).Nodup := by rw [← rx.keys]; exact nd
        refine ⟨_, rfl, rfl, _, rfl, iteDF (fun e => nomatch e) ⟨_, rfl, _, _, _, _, false, rfl, .ty _, hB, kit_ty (by decide +kernel), ⟨_, rfl, ?_⟩⟩⟩
        refine ⟨_, rfl, _, _, _, _, false, rfl, .ty _, hB, kit_ty (by decide +kernel), ⟨_, rfl, ?_⟩⟩
        refine ⟨_, rfl, _, _, _, _, false, rfl, .ty _, hB, kit_ty (by decide +kernel), ⟨_, rfl, ?_⟩⟩
        refine ⟨_, rfl, _, _, _, _, false, rfl, .ty _, hB, kit_ty (by decide +kernel), ⟨_, rfl, ?_⟩⟩
        refine ⟨_, rfl, _, _, _, _, false, rfl, .ty _, hB, kit_ty (by decide +kernel), ⟨_, rfl, ?_⟩⟩
        refine ⟨_, rfl, _, _, _, _, true, rfl, .ty _, hA, kit_ty (by decide +kernel), ⟨_, rfl, ?_⟩⟩
        refine ⟨_, rfl, a, kvs, rfl, hxa, _, rfl, b, kws, rfl, hyb, rfl, _, rfl, ?_⟩
        refine iteNS (by rw [hlen]) ?_
        refine ⟨b, .dK kws, hyb, True.intro, fun od => ?_⟩
        have hLa : (upd H b (.frz od (.dK kws))) a = some (.dK kvs) := by rw [upd_ne hab]; exact hxa
        refine ⟨_, rfl, b, od, rfl, .inl ⟨kws, upd_same, for_it walk_keys (fun i σ H2 => (∃ v, σ = [some (.ref a), some (.ref b), v]) ∧ H2 = upd H b (.frz od (.dK kws))) ⟨⟨none, rfl⟩, rfl⟩ (fun i σ H2 _ hh => by rw [hh.2]; exact upd_same) ?_ ?_⟩⟩
        · rintro i x σ H2 H2' hi ⟨⟨v, rfl⟩, rfl⟩ ⟨rfl, key, wv, ek, rfl⟩
          obtain ⟨g2, F2, e2, p2, i2⟩ := ry.get ek
          have hkm := hk _ (List.mem_of_getElem? e2)
          obtain ⟨vv, F1, evv, p1, i1⟩ := rx.lk ndk (List.mem_map.mpr ⟨_, hkm, rfl⟩)
          rw [lkG_mem ndk hkm] at p1
          have ga : DGet (upd H b (.frz od (.dK kws))) a (kV key) (some vv) := by
            have g := DGet.k (k := key) hLa
            rw [evv] at g
            exact g
          have gb : DGet (upd H b (.frz od (.dK kws))) b (kV key) (some wv) := .inl ⟨kws, key, .inr ⟨od, upd_same⟩, rfl, (valV_at nd2 ek).symm⟩
          refine ⟨_, rfl, _, rfl, a, _, rfl, ga, _, rfl, ?_⟩
          refine iteF ⟨_, rfl, _, rfl, a, vv, rfl, ga, _, rfl, _, rfl, b, wv, rfl, gb, .inl ⟨vv, wv, fk key, g2, F1, F2, rfl, p1.locked hyb (fun h => hbD (i1 b h)), p2.locked hyb (fun h => fy (i2 b h)), hg _ (List.mem_of_getElem? e2), fun c h1 h2 => hdis c (List.mem_cons_of_mem _ (i1 c h1)) (List.mem_cons_of_mem _ (i2 c h2)), hd _ _ (List.mem_of_getElem? e2), _, rfl, ?_⟩⟩
          exact iteF ⟨⟨_, rfl⟩, rfl⟩
        · rintro σ H2 ⟨⟨v, rfl⟩, rfl⟩
          refine ⟨upd_same, ?_⟩
          rw [upd_upd, upd_self hyb]
          refine ⟨a, .dK kvs, hxa, True.intro, fun oe => ?_⟩
          refine ⟨_, rfl, a, oe, rfl, .inl ⟨kvs, upd_same, for_it walk_keys (fun i σ H2 => (∃ v, σ = [some (.ref a), some (.ref b), v]) ∧ H2 = upd H a (.frz oe (.dK kvs))) ⟨⟨v, rfl⟩, rfl⟩ (fun i σ H2 _ hh => by rw [hh.2]; exact upd_same) ?_ ?_⟩⟩
          · rintro i x σ H2 H2' hi ⟨⟨v, rfl⟩, rfl⟩ ⟨rfl, key, wv, ek, rfl⟩
            cases key with
            | inl i0 => exact ⟨_, rfl, _, _, _, _, false, rfl, .ty _, .base (.int _), kit_ty (by decide +kernel), _, rfl, ⟨_, rfl⟩, rfl⟩
            | inr s0 => exact ⟨_, rfl, _, _, _, _, false, rfl, .ty _, .base (.str _), kit_ty (by decide +kernel), _, rfl, ⟨_, rfl⟩, rfl⟩
          · rintro σ H2 ⟨⟨v, rfl⟩, rfl⟩
            refine ⟨upd_same, ?_⟩
            rw [upd_upd, upd_self hxa]
            exact q
    · have hA : TyX K H (.ref a) (.type "list") := .base (.lst ha)
      have hB : TyX K H (.ref b) (.type "list") := .base (.lst hb)
      refine ⟨_, rfl, rfl, _, rfl, iteDF (fun e => nomatch e) ⟨_, rfl, _, _, _, _, false, rfl, .ty _, hB, kit_ty (by decide +kernel), ⟨_, rfl, ?_⟩⟩⟩
      refine ⟨_, rfl, _, _, _, _, false, rfl, .ty _, hB, kit_ty (by decide +kernel), ⟨_, rfl, ?_⟩⟩
      refine ⟨_, rfl, _, _, _, _, false, rfl, .ty _, hB, kit_ty (by decide +kernel), ⟨_, rfl, ?_⟩⟩
      refine ⟨_, rfl, _, _, _, _, false, rfl, .ty _, hB, kit_ty (by decide +kernel), ⟨_, rfl, ?_⟩⟩
      refine ⟨_, rfl, _, _, _, _, true, rfl, .ty _, hB, kit_ty (by decide +kernel), ⟨_, rfl, ?_⟩⟩
      refine ⟨_, rfl, _, _, _, _, true, rfl, .ty _, hA, kit_ty (by decide +kernel), ⟨_, rfl, ⟨_, rfl, _, rfl, a, b, _, _, rfl, .inl ⟨ha, hb⟩, rfl, by rw [List.length_map]; exact hl, fun i x y ex ey => ?_, q⟩⟩⟩
      obtain ⟨c, rfl, hc⟩ := int_at ex
      rw [ex] at ey
      cases ey
      exact ⟨_, _, [], [], .s rfl, .s rfl, .s _, (fun c h => by cases h), (by simp only [G.dep]; omega)⟩)
theorem ok_law_same {f g i : Addr} {fd gd ii : FuncData} (k : Kn K mg "_law_same" s_law_same ["actual", "expected"] f fd) (kI : Kn K mg "_law_same_items" s_law_same_items ["actual", "expected"] g gd) (z : Z mg)
    (c_law_is_integer : Cal P w K mg base 1 "_law_is_integer" ["actual"] spIsInt i ii) : ∀ n : Nat, Cal P w K mg base (2 * n) "_law_same" ["actual", "expected"] (spSameE n) f fd
  | 0 => k.cal no_same
  | n + 1 => by
    have h := ok_law_same k kI z c_law_is_integer n
    exact ok_same k z h c_law_is_integer (ok_items kI z h)
theorem ok_number_bytes {f : Addr} {fd : FuncData} (k : Kn K mg "number_bytes" s_number_bytes ["number", "many"] f fd) (z : Z mg) :
    Cal P w K mg base 1 "number_bytes" ["number", "many"] (spNB) f fd := k.cal (by
  refine k.F.ok sc_number_bytes (fun vs H Q E h => ?_) (fun cdv A outer s H vs Q E hr h => ?_)
  · obtain ⟨n, k, rfl, _⟩ := h; rfl
  · obtain ⟨n, k, rfl, hk, q⟩ := h
    refine ⟨_, (pss_cons (ps_set (i := 2) sc_number_bytes.nd rfl (Or.inl rfl) (pe_lst pa_nil))
        (pss_cons (ps_set (i := 3) sc_number_bytes.nd rfl (Or.inl rfl) (pv 0))
        (pss_cons (ps_for PassesOwn.never rfl (pi_range1 (by rfl) z.range (pa_cons (pv 1) pa_nil)) (pg_name (i := 4) sc_number_bytes.nd rfl (Or.inl rfl))
        (pss_cons (ps_expr (pe_bm PySem.F.plainAttrs_list PySem.F.slot_list_append PySem.F.type_list_append mt_append (pv 2) (pa_cons (pe_op op_and (pv 3) pe_int) pa_nil)))
        (pss_one (ps_set (i := 3) sc_number_bytes.nd rfl (Or.inl rfl) (pe_op op_shr (pv 3) pe_int)))))
        (pss_one (ps_ret (LtR.pe_lstRev rfl (by rfl) z.list (by rfl) z.reversed (pv 2))))))), ?_⟩
    refine ⟨Nat.zero_le _, fun F hF => ?_⟩
    refine ⟨_, rfl, _, rfl, k, rfl, by omega, by omega, for_range (lo := 0) (n := k) (fun i σ H' => ∃ v, σ = [some (.int n), some (.int k), some (.ref F), some (.int (n / 256 ^ i : Nat)), v] ∧ H' F = some (.lst ((nbR n i).map V.int)) ∧ Same H H') ⟨none, by rw [Nat.pow_zero, Nat.div_one]; rfl, upd_same, same_new hF _⟩ ?_ ?_⟩
    · rintro i σ H1 hi ⟨v, rfl, h1, s1⟩
      refine ⟨_, rfl, .inl ⟨rfl, _, SqL.of h1⟩, _, rfl, _, _, rfl, rfl, F, _, _, rfl, rfl, h1, (by rw [List.length_map, nbR_len]; exact small1000 (by omega)), ?_⟩
      refine ⟨_, rfl, _, _, rfl, rfl, (by show (0 : Int) ≤ 8; decide), ?_⟩
      refine ⟨some (.int (0 + i)), ?_, ?_, same_upd hF _ s1⟩
      · have e : ((n / 256 ^ i : Nat) : Int) / 2 ^ (8 : Int).toNat = ((n / 256 ^ (i + 1) : Nat) : Int) := by
          rw [Nat.pow_succ, ← Nat.div_div_eq_div_mul]
          have : (2 : Int) ^ (8 : Int).toNat = 256 := by decide
          rw [this]
          omega
        rw [← e]
        rfl
      · rw [upd_same, nbR_snoc, List.map_append]
        have e : Builtin.bitAnd ((n / 256 ^ i : Nat) : Int) 255 = ((n / 256 ^ i % 256 : Nat) : Int) := by rw [PyProof.Rows.bitAnd_m8]; omega
        rw [← e]
        rfl
    · rintro σ H1 ⟨v, rfl, h1, s1⟩
      refine ⟨_, rfl, F, _, rfl, SqL.of h1, fun p hp => ?_⟩
      refine q p _ ?_ (same_upd (s1.free hp) _ s1) (s1.free hp)
      rw [upd_same, ← List.map_reverse]; rfl)
theorem ok_packed_number {f : Addr} {fd : FuncData} (k : Kn K mg "packed_number" s_packed_number ["number"] f fd) (z : Z mg)
    {g_number_bytes : Addr} {gd_number_bytes : FuncData} (c_number_bytes : Cal P w K mg base 1 "number_bytes" ["number", "many"] (spNB) g_number_bytes gd_number_bytes) :
    Cal P w K mg base 2 "packed_number" ["number"] (spPNum) f fd := k.cal (by
  obtain ⟨t_NEGATIVE, k_NEGATIVE⟩ := z.c_NEGATIVE
  obtain ⟨t_NUMBER_BYTES, k_NUMBER_BYTES⟩ := z.c_NUMBER_BYTES
  obtain ⟨t_NUMBER, k_NUMBER⟩ := z.c_NUMBER
  refine k.F.ok sc_packed_number (fun vs H Q E h => ?_) (fun cdv A outer s H vs Q E hr h => ?_)
  · obtain ⟨i, rfl, _⟩ := h; rfl
  · obtain ⟨i, rfl, q⟩ := h
    refine ⟨_, (pss_cons (ps_if (pt_cmpR op_lt (pv 0) pe_int (nomark _)) (pss_one (ps_ret (pe_op op_cat (pe_lst (pa_cons (pe_glob (v := .int (4)) rfl k_NEGATIVE ⟨_, rfl⟩) pa_nil)) (pe_call c_number_bytes.G (hr.mono (by decide)) (by rfl) c_number_bytes.m c_number_bytes.kp c_number_bytes.b .nil pass0 (pa_cons (pe_un un_neg (pv 0)) (pa_cons (pe_glob (v := .int (4)) rfl k_NUMBER_BYTES ⟨_, rfl⟩) pa_nil)))))) pss_nil)
        (pss_one (ps_ret (pe_op op_cat (pe_lst (pa_cons (pe_glob (v := .int (3)) rfl k_NUMBER ⟨_, rfl⟩) pa_nil)) (pe_call c_number_bytes.G (hr.mono (by decide)) (by rfl) c_number_bytes.m c_number_bytes.kp c_number_bytes.b .nil pass0 (pa_cons (pv 0) (pa_cons (pe_glob (v := .int (4)) rfl k_NUMBER_BYTES ⟨_, rfl⟩) pa_nil))))))), ?_⟩
    refine ⟨_, rfl, _, _, rfl, rfl, _, rfl, ?_⟩
    refine ifD (fun h => ?_) (fun h => ?_)
    · refine ⟨(by show 1 ≤ sizeLine; decide), fun L hL => ?_⟩
      obtain ⟨n, hn⟩ : ∃ n : Nat, -i = n := ⟨(-i).toNat, by omega⟩
      refine ⟨_, rfl, _, rfl, n, 4, (by show [V.int (-i), V.int 4] = _; rw [hn]; rfl), by decide, fun p H1 h1 s1 n1 => ?_⟩
      refine ⟨_, _, _, _, rfl, rfl, s1 _ _ upd_same, h1, ?_, fun r hr => ?_⟩
      · rw [List.length_map, nb_len]; show 1 + 4 ≤ sizeLine; decide
      refine q r _ ?_ (same_upd (((same_new hL _).trans s1).free hr) _ ((same_new hL _).trans s1)) (((same_new hL _).trans s1).free hr)
      rw [upd_same]
      show _ = some (HO.lst ((if i < 0 then 4 :: nb (-i).toNat 4 else 3 :: nb i.toNat 4 : List Int).map V.int))
      rw [if_pos h, hn, Int.toNat_natCast]
      rfl
    · refine ⟨(by show 1 ≤ sizeLine; decide), fun L hL => ?_⟩
      obtain ⟨n, hn⟩ : ∃ n : Nat, i = n := ⟨i.toNat, by omega⟩
      refine ⟨_, rfl, n, 4, (by show [V.int i, V.int 4] = _; rw [hn]; rfl), by decide, fun p H1 h1 s1 n1 => ?_⟩
      refine ⟨_, _, _, _, rfl, rfl, s1 _ _ upd_same, h1, ?_, fun r hr => ?_⟩
      · rw [List.length_map, nb_len]; show 1 + 4 ≤ sizeLine; decide
      refine q r _ ?_ (same_upd (((same_new hL _).trans s1).free hr) _ ((same_new hL _).trans s1)) (((same_new hL _).trans s1).free hr)
      rw [upd_same]
      show _ = some (HO.lst ((if i < 0 then 4 :: nb (-i).toNat 4 else 3 :: nb i.toNat 4 : List Int).map V.int))
      rw [if_neg h, hn, Int.toNat_natCast]
      rfl)
theorem ok_packed_text {f : Addr} {fd : FuncData} (k : Kn K mg "packed_text" s_packed_text ["text"] f fd) (z : Z mg)
    {g_number_bytes : Addr} {gd_number_bytes : FuncData} (c_number_bytes : Cal P w K mg base 1 "number_bytes" ["number", "many"] (spNB) g_number_bytes gd_number_bytes) :
    Cal P w K mg base 2 "packed_text" ["text"] (spPTxt) f fd := k.cal (by
  obtain ⟨t_TEXT, k_TEXT⟩ := z.c_TEXT
  obtain ⟨t_LENGTH_BYTES, k_LENGTH_BYTES⟩ := z.c_LENGTH_BYTES
  refine k.F.ok sc_packed_text (fun vs H Q E h => ?_) (fun cdv A outer s H vs Q E hr h => ?_)
  · obtain ⟨z, rfl, _⟩ := h; rfl
  · obtain ⟨zz, rfl, ok, q⟩ := h
    refine ⟨_, (pss_one (ps_ret (pe_op op_cat (pe_op op_cat (pe_lst (pa_cons (pe_glob (v := .int (5)) rfl k_TEXT ⟨_, rfl⟩) pa_nil)) (pe_call c_number_bytes.G (hr.mono (by decide)) (by rfl) c_number_bytes.m c_number_bytes.kp c_number_bytes.b .nil pass0 (pa_cons (pe_callB call_len_str (by rfl) z.len (by decide +kernel) (pa_cons (pv 0) pa_nil)) (pa_cons (pe_glob (v := .int (2)) rfl k_LENGTH_BYTES ⟨_, rfl⟩) pa_nil)))) (pe_lc (own := [("character", 1)]) (g := gName 1) (tt := tYes) (by rfl) sc_packed_text.nd (pi_str (pv 0)) (blkOk_by (own := [("character", 1)]) (N := ["text", "character"]) (sc := defScope s_packed_text) (by decide +kernel)) (fun _ _ _ _ _ => pg_name (i := 1) sc_packed_text.nd rfl (Or.inl rfl)) (fun _ _ _ _ _ => pts_nil) (fun _ _ _ _ _ => (pe_callB call_ord (by rfl) z.ord (by decide +kernel) (pa_cons (pv 1) pa_nil))))))), ?_⟩
    have ln : zz.length = zz.cps.size := rfl
    have l400 := ok.1
    refine ⟨(by show 1 ≤ sizeLine; decide), fun L hL => ?_⟩
    have s0 := same_new hL (.lst [V.int 5])
    refine ⟨_, rfl, _, rfl, Nat.le_of_lt (small1000 (by omega)), zz.length, 2, rfl, by decide, fun p H1 h1 s1 n1 => ?_⟩
    refine ⟨_, _, _, _, rfl, rfl, s1 _ _ upd_same, h1, ?_, fun r hr => ?_⟩
    · rw [List.length_map, nb_len]; show 1 + 2 ≤ sizeLine; decide
    have s2 := s0.trans (s1.trans (same_new hr (.lst ([V.int 5] ++ (nb zz.length 2).map V.int))))
    refine ⟨_, rfl, zz, rfl, fun D hD => lc_it walk_str (fun i H' => H' D = some (.lst ((((tl zz).take i).map fun c => ((c : Nat) : Int)).map V.int)) ∧ Same (upd H1 r (.lst ([V.int 5] ++ (nb zz.length 2).map V.int))) H') ⟨upd_same, same_new hD _⟩ (fun _ _ _ _ => True.intro) ?_ ?_⟩
    · rintro i x H3 H3' hi ⟨hD1, s3⟩ ⟨e1, c, e2, rfl⟩
      subst e1
      have ec : (tl zz)[i]? = some c := by rw [← e2]; exact Array.getElem?_toList
      refine ⟨rfl, _, rfl, one c, rfl, rfl, _, hD1, (by rw [List.length_map, List.length_map, List.length_take]; exact small1000 (by omega)), ?_, same_upd hD _ s3⟩
      rw [upd_same, List.take_add_one, ec]
      simp
      rfl
    · rintro H3 ⟨hD1, s3⟩
      have e : (tl zz).take zz.cps.size = tl zz := List.take_of_length_le (by simp [tl])
      rw [e] at hD1
      refine ⟨_, _, _, _, rfl, rfl, s3 _ _ upd_same, hD1, ?_, fun w hw => ?_⟩
      · rw [List.length_append, List.length_map, nb_len, List.length_map, List.length_map, ← len_tl]
        show 1 + 2 + zz.length ≤ sizeLine
        exact Nat.le_of_lt (small1000 (by omega))
      have S := s2.trans s3
      refine q w _ ?_ (same_upd (S.free hw) _ S) (S.free hw)
      rw [upd_same]
      show _ = some (HO.lst ((5 :: (nb zz.length 2 ++ (tl zz).map fun c => ((c : Nat) : Int))).map V.int))
      rw [List.map_cons, List.map_append]
      simp)

theorem no_pack {f : Addr} {fd : FuncData} : FnOk P w K mg base CX0 3 f fd ["data"] (spPack 0) := ⟨fun vs H Q E h => h.elim, fun A outer s H args us vs Q E _ _ _ _ h => h.elim⟩
theorem no_pitems {f : Addr} {fd : FuncData} : FnOk P w K mg base CX0 4 f fd ["first", "items"] (spPItems 0) := ⟨fun vs H Q E h => h.elim, fun A outer s H args us vs Q E _ _ _ _ h => h.elim⟩
theorem no_pdict {f : Addr} {fd : FuncData} : FnOk P w K mg base CX0 4 f fd ["table"] (spPDict 0) := ⟨fun vs H Q E h => h.elim, fun A outer s H args us vs Q E _ _ _ _ h => h.elim⟩
theorem ok_packed_items {n : Nat} {f g gn : Addr} {fd gd gnd : FuncData} (k : Kn K mg "packed_items" s_packed_items ["first", "items"] f fd) (z : Z mg)
    (c_number_bytes : Cal P w K mg base 1 "number_bytes" ["number", "many"] spNB gn gnd)
    (c_pack : Cal P w K mg base (2 * n + 5) "pack" ["data"] (spPack (n + 1)) g gd) : Cal P w K mg base (2 * n + 6) "packed_items" ["first", "items"] (spPItems (n + 1)) f fd := k.cal (by
  obtain ⟨t_LENGTH_BYTES, k_LENGTH_BYTES⟩ := z.c_LENGTH_BYTES
  refine k.F.ok sc_packed_items (fun vs H Q E h => ?_) (fun cdv A outer s H vs Q E hr h => ?_)
  · obtain ⟨f0, a, xs, gs, D, rfl, _⟩ := h; rfl
  · obtain ⟨f0, a, xs, gs, D, rfl, ha, r, l4, ok, n4, q⟩ := h
    have hu := hu_of hr
    have A1 : SqL K H a xs ∨ SqT K H a xs := by rcases ha with ha | ha; exact .inl (SqL.of ha); exact .inr (SqT.of ha)
    have lx : xs.length = gs.length := r.length
    refine ⟨_, (pss_cons (ps_set (i := 2) sc_packed_items.nd rfl (Or.inl rfl) (pe_op op_cat (pe_lst (pa_cons (pv 0) pa_nil)) (pe_call c_number_bytes.G (hr.mono (by omega)) (by rfl) c_number_bytes.m c_number_bytes.kp c_number_bytes.b .nil pass0 (pa_cons (pe_callB call_len_seq (by rfl) z.len (by decide +kernel) (pa_cons (pv 1) pa_nil)) (pa_cons (pe_glob (v := .int (2)) rfl k_LENGTH_BYTES ⟨_, rfl⟩) pa_nil)))))
    (pss_cons (ps_for PassesOwn.never rfl (pi_either (pi_list (pv 1)) (pi_tup (pv 1))) (pg_name (i := 3) sc_packed_items.nd rfl (Or.inl rfl))
    (pss_one (ps_expr (pe_bm PySem.F.plainAttrs_list PySem.F.slot_list_extend PySem.F.type_list_extend mt_extend (pv 2) (pa_cons (pe_call c_pack.G (hr.mono (by omega)) (by rfl) c_pack.m c_pack.kp c_pack.b .nil pass0 (pa_cons (pv 3) pa_nil)) pa_nil)))))
    (pss_one (ps_ret (pv 2))))), ?_⟩
    refine ⟨_, rfl, (by show 1 ≤ sizeLine; decide), fun L0 hL0 => ?_⟩
    have s0 := same_new hL0 (.lst [V.int f0])
    have A2 : SqL K (upd H L0 (.lst [V.int f0])) a xs ∨ SqT K (upd H L0 (.lst [V.int f0])) a xs := by rcases ha with ha | ha; exact .inl (SqL.of (s0 _ _ ha)); exact .inr (SqT.of (s0 _ _ ha))
    refine ⟨_, rfl, a, _, rfl, A2, xs.length, 2, rfl, by decide, fun p H1 h1 s1 n1 => ?_⟩
    rw [lx] at h1
    refine ⟨_, _, _, _, rfl, rfl, s1 _ _ upd_same, h1, ?_, fun F hF => ?_⟩
    · rw [List.length_map, nb_len]; show 1 + 2 ≤ sizeLine; decide
    have s2 := s0.trans (s1.trans (same_new hF (.lst ([V.int f0] ++ (nb gs.length 2).map V.int))))
    have F0 : H F = none := (s0.trans s1).free hF
    have sm : ∀ i, i ≤ gs.length → (packL (gs.take i)).length ≤ 4 * plen n := fun i hi => by
      have h1 := packL_len (n := n) (gs := gs.take i) fun g hg => ok g (List.mem_of_mem_take hg)
      have h2 : (gs.take i).length * plen n ≤ 4 * plen n := Nat.mul_le_mul_right _ (by rw [List.length_take]; omega)
      omega
    have pl := plen_3 n4
    have st0 : (upd H1 F (.lst ([V.int f0] ++ (nb gs.length 2).map V.int))) F = some (.lst (([f0] ++ nb gs.length 2 ++ packL (gs.take 0)).map V.int)) := by
      rw [upd_same]
      simp [packL]
    have turn : ∀ (i : Nat) (x : V) (H3 : Hp) (R : Hp → Prop), xs[i]? = some x → H3 F = some (.lst (([f0] ++ nb gs.length 2 ++ packL (gs.take i)).map V.int)) → Same H H3 →
        (∀ H4 p, H4 F = some (.lst (([f0] ++ nb gs.length 2 ++ packL (gs.take (i + 1))).map V.int)) → Same H H4 → R H4) → ∃ g E, Gp H3 x g E ∧ DOk n g ∧ ∀ p H4, H4 p = some (.lst ((packM g).map V.int)) → Same H3 H4 → H3 p = none →
          (([f0] ++ nb gs.length 2 ++ packL (gs.take i)).map V.int).length + ((packM g).map V.int).length ≤ sizeLine ∧ R (upd H4 F (.lst (([f0] ++ nb gs.length 2 ++ packL (gs.take i)).map V.int ++ (packM g).map V.int))) := fun i x H3 R hx h3 s3 hR => by
      obtain ⟨g1, E1, e1, p1, i1⟩ := r.get hx
      have hg := ok g1 (List.mem_of_getElem? e1)
      have hi : i < gs.length := (List.getElem?_eq_some_iff.mp e1).1
      refine ⟨g1, E1, p1.mono s3, hg, fun p H4 h4 s4 n4' => ⟨?_, hR _ p ?_ (same_upd F0 _ (s3.trans s4))⟩⟩
      · have := sm i (by omega)
        have := pack_len hg
        rw [List.length_map, List.length_map, List.length_append, List.length_append, nb_len]
        exact small6 (by simp only [List.length_cons, List.length_nil]; omega)
      · rw [upd_same, packL_take e1, ← List.map_append, List.append_assoc]
    rcases ha with ha | ha
    · refine .inl ⟨_, rfl, a, rfl, ⟨_, SqL.of (s2 _ _ ha)⟩, for_list (K := K) (a := a) (xs := xs) (fun i σ H' => (∃ v, σ = [some (.int f0), some (.ref a), some (.ref F), v]) ∧ H' F = some (.lst (([f0] ++ nb gs.length 2 ++ packL (gs.take i)).map V.int)) ∧ Same H H') ⟨⟨none, rfl⟩, st0, s2⟩ (fun i σ H' _ hh => SqL.of (hh.2.2 _ _ ha)) ?_ ?_⟩
      · rintro i x σ H3 hi ⟨⟨v, rfl⟩, h3, s3⟩
        obtain ⟨g1, E1, p1, hg, fin⟩ := turn i x H3 (fun H4 => H4 F = some (.lst (([f0] ++ nb gs.length 2 ++ packL (gs.take (i + 1))).map V.int)) ∧ Same H H4) hi h3 s3 (fun H4 p a b => ⟨a, b⟩)
        refine ⟨_, rfl, .inl ⟨rfl, _, SqL.of h3⟩, _, rfl, x, g1, E1, rfl, p1, hg, by omega, fun p H4 h4 s4 n4' => ?_⟩
        obtain ⟨l1, r1⟩ := fin p H4 h4 s4 n4'
        exact ⟨F, p, _, _, rfl, rfl, s4 _ _ h3, h4, l1, ⟨_, rfl⟩, r1⟩
      · rintro σ H3 ⟨⟨v, rfl⟩, h3, s3⟩
        rw [lx, List.take_length] at h3
        refine ⟨_, rfl, q F H3 ?_ s3 F0⟩
        rw [h3]; simp
    · refine .inr ⟨_, rfl, a, rfl, ⟨_, SqT.of (s2 _ _ ha)⟩, for_tup (K := K) (a := a) (xs := xs) (fun i σ H' => (∃ v, σ = [some (.int f0), some (.ref a), some (.ref F), v]) ∧ H' F = some (.lst (([f0] ++ nb gs.length 2 ++ packL (gs.take i)).map V.int)) ∧ Same H H') ⟨⟨none, rfl⟩, st0, s2⟩ (fun i σ H' _ hh => SqT.of (hh.2.2 _ _ ha)) ?_ ?_⟩
      · rintro i x σ H3 hi ⟨⟨v, rfl⟩, h3, s3⟩
        obtain ⟨g1, E1, p1, hg, fin⟩ := turn i x H3 (fun H4 => H4 F = some (.lst (([f0] ++ nb gs.length 2 ++ packL (gs.take (i + 1))).map V.int)) ∧ Same H H4) hi h3 s3 (fun H4 p a b => ⟨a, b⟩)
        refine ⟨_, rfl, .inl ⟨rfl, _, SqL.of h3⟩, _, rfl, x, g1, E1, rfl, p1, hg, by omega, fun p H4 h4 s4 n4' => ?_⟩
        obtain ⟨l1, r1⟩ := fin p H4 h4 s4 n4'
        exact ⟨F, p, _, _, rfl, rfl, s4 _ _ h3, h4, l1, ⟨_, rfl⟩, r1⟩
      · rintro σ H3 ⟨⟨v, rfl⟩, h3, s3⟩
        rw [lx, List.take_length] at h3
        refine ⟨_, rfl, q F H3 ?_ s3 F0⟩
        rw [h3]; simp)
theorem ok_packed_dict {n : Nat} {f g gn : Addr} {fd gd gnd : FuncData} (k : Kn K mg "packed_dict" s_packed_dict ["table"] f fd) (z : Z mg)
    (c_number_bytes : Cal P w K mg base 1 "number_bytes" ["number", "many"] spNB gn gnd)
    (c_pack : Cal P w K mg base (2 * n + 5) "pack" ["data"] (spPack (n + 1)) g gd) : Cal P w K mg base (2 * n + 6) "packed_dict" ["table"] (spPDict (n + 1)) f fd := k.cal (by
  obtain ⟨t_DICT, k_DICT⟩ := z.c_DICT
  obtain ⟨t_LENGTH_BYTES, k_LENGTH_BYTES⟩ := z.c_LENGTH_BYTES
  refine k.F.ok sc_packed_dict (fun vs H Q E h => ?_) (fun cdv A outer s H vs Q E hr h => ?_)
  · obtain ⟨a, kvs, ks, D, rfl, _⟩ := h; rfl
  · obtain ⟨a, kvs, ks, D, rfl, ha, r, aD, l4, nd, okk, okg, n4, q⟩ := h
    have hu := hu_of hr
    have lk : kvs.length = ks.length := by have := congrArg List.length r.keys; simpa using this
    refine ⟨_, (pss_cons (ps_set (i := 1) sc_packed_dict.nd rfl (Or.inl rfl) (pe_op op_cat (pe_lst (pa_cons (pe_glob (v := .int (8)) rfl k_DICT ⟨_, rfl⟩) pa_nil)) (pe_call c_number_bytes.G (hr.mono (by omega)) (by rfl) c_number_bytes.m c_number_bytes.kp c_number_bytes.b .nil pass0 (pa_cons (pe_callB call_lenD (by rfl) z.len (by decide +kernel) (pa_cons (pv 0) pa_nil)) (pa_cons (pe_glob (v := .int (2)) rfl k_LENGTH_BYTES ⟨_, rfl⟩) pa_nil)))))
    (pss_cons (ps_set (i := 3) sc_packed_dict.nd rfl (Or.inl rfl) (pe_callB (cr_sortedI) (by rfl) z.sorted (by decide +kernel) (pa_cons (pe_lock (pe_lc (own := [("key", 2)]) (g := gName 2) (by rfl) sc_packed_dict.nd (pi_keys (pv 0)) (blkOk_by (own := [("key", 2)]) (N := ["table", "found", "key", "numbers", "texts"]) (sc := defScope s_packed_dict) (by decide +kernel)) (fun _ _ _ _ _ => pg_name (i := 2) sc_packed_dict.nd rfl (Or.inl rfl)) (fun _ _ _ _ _ => (pts_one (pt_val (pe_callB (r := rIsi K) call_isi (by rfl) z.isinstance (by decide +kernel) (pa_cons (pv 2) (pa_cons (pe_bltn (v := .ty "int") (u := .type "int") (by rfl) z.int (by decide +kernel) rfl) pa_nil)))))) (fun _ _ _ _ _ => (pv 2)))) pa_nil)))
    (pss_cons (ps_set (i := 4) sc_packed_dict.nd rfl (Or.inl rfl) (pe_callB (cr_sortedS) (by rfl) z.sorted (by decide +kernel) (pa_cons (pe_lock (pe_lc (own := [("key", 2)]) (g := gName 2) (by rfl) sc_packed_dict.nd (pi_keys (pv 0)) (blkOk_by (own := [("key", 2)]) (N := ["table", "found", "key", "numbers", "texts"]) (sc := defScope s_packed_dict) (by decide +kernel)) (fun _ _ _ _ _ => pg_name (i := 2) sc_packed_dict.nd rfl (Or.inl rfl)) (fun _ _ _ _ _ => (pts_one (pt_val (pe_callB (r := rIsi K) call_isi (by rfl) z.isinstance (by decide +kernel) (pa_cons (pv 2) (pa_cons (pe_bltn (v := .ty "str") (u := .type "str") (by rfl) z.str (by decide +kernel) rfl) pa_nil)))))) (fun _ _ _ _ _ => (pv 2)))) pa_nil)))
    (pss_cons (ps_for PassesOwn.never rfl (pi_list (pe_op op_cat (pv 3) (pv 4))) (pg_name (i := 2) sc_packed_dict.nd rfl (Or.inl rfl))
    (pss_cons (ps_expr (pe_bm PySem.F.plainAttrs_list PySem.F.slot_list_extend PySem.F.type_list_extend mt_extend (pv 1) (pa_cons (pe_call c_pack.G (hr.mono (by omega)) (by rfl) c_pack.m c_pack.kp c_pack.b .nil pass0 (pa_cons (pv 2) pa_nil)) pa_nil)))
    (pss_one (ps_expr (pe_bm PySem.F.plainAttrs_list PySem.F.slot_list_extend PySem.F.type_list_extend mt_extend (pv 1) (pa_cons (pe_call c_pack.G (hr.mono (by omega)) (by rfl) c_pack.m c_pack.kp c_pack.b .nil pass0 (pa_cons (pe_dget hu (pv 0) (pv 2) (fun _ _ => rfl)) pa_nil)) pa_nil))))))
    (pss_one (ps_ret (pv 1))))))), ?_⟩
    refine ⟨(by show 1 ≤ sizeLine; decide), fun L0 hL0 => ?_⟩
    have s0 := same_new hL0 (.lst [V.int 8])
    refine ⟨_, rfl, a, kvs, rfl, s0 _ _ ha, kvs.length, 2, rfl, by decide, fun p H1 h1 s1 n1 => ?_⟩
    rw [lk] at h1
    refine ⟨_, _, _, _, rfl, rfl, s1 _ _ upd_same, h1, ?_, fun F hF => ?_⟩
    · rw [List.length_map, nb_len]; show 1 + 2 ≤ sizeLine; decide
    have F0 : H F = none := (s0.trans s1).free hF
    have s2 := s0.trans (s1.trans (same_new hF (.lst ([V.int 8] ++ (nb ks.length 2).map V.int))))
    have hF2 : (upd H1 F (.lst ([V.int 8] ++ (nb ks.length 2).map V.int))) F = some (.lst ([V.int 8] ++ (nb ks.length 2).map V.int)) := upd_same
    generalize upd H1 F (.lst ([V.int 8] ++ (nb ks.length 2).map V.int)) = H2 at s2 hF2 ⊢
    have ha2 := s2 _ _ ha
    have ekeys : kvs.map (·.1) = ks.map (·.1) := r.keys
    refine ⟨a, .dK kvs, ha2, True.intro, fun od => ?_⟩
    refine ⟨_, rfl, a, od, rfl, .inl ⟨kvs, upd_same, fun N hN => inner walk_keys (fun i H' => H' N = some (.lst ((intK ((kvs.map (·.1)).take i)).map kV)) ∧ H' a = some (.frz od (.dK kvs)) ∧ Same (upd H2 a (.frz od (.dK kvs))) H') ⟨upd_same, by rw [upd_ne (fun z => by rw [← z, upd_same] at hN; cases hN)]; exact upd_same, same_new hN _⟩ (fun i H' _ hh => hh.2.1) ?_ ?_⟩⟩
    · rintro i x H3 H3' hi ⟨h3, h4, s3⟩ ⟨rfl, key, wv, ek, rfl⟩
      have eki : (kvs.map (·.1))[i]? = some key := by rw [List.getElem?_map, ek]; rfl
      have Na : a ≠ N := fun z => by rw [z, h3] at h4; cases h4
      cases key with
      | inl m =>
        refine ⟨rfl, _, rfl, _, _, _, _, true, rfl, .ty _, .base (.int _), kit_ty (by decide +kernel), _, rfl, ?_⟩
        refine ⟨_, rfl, _, h3, ?_, ?_, ?_, same_upd hN _ s3⟩
        · rw [List.length_map]
          have := intK_len ((kvs.map (·.1)).take i)
          rw [List.length_take, List.length_map] at this
          exact small1000 (by omega)
        · rw [upd_same, (intK_take_int eki).1, List.map_append]; rfl
        · rw [upd_ne Na]; exact h4
      | inr y =>
        refine ⟨rfl, _, rfl, _, _, _, _, false, rfl, .ty _, .base (.str _), kit_ty (by decide +kernel), _, rfl, ?_⟩
        refine ⟨?_, h4, s3⟩
        rw [(intK_take_str eki).1]; exact h3
    rintro H3 ⟨h3, h4, s3⟩
    rw [← List.length_map (f := (·.1)), List.take_length, ekeys] at h3
    refine ⟨h4, ?_⟩
    have s4 := unlock_same ha2 s3
    have Na : N ≠ a := fun z => by rw [z, h4] at h3; cases h3
    have h3' : (upd H3 a (.dK kvs)) N = some (.lst ((intK (ks.map (·.1))).map kV)) := by rw [upd_ne Na]; exact h3
    generalize upd H3 a (.dK kvs) = H4 at s4 h3' ⊢
    obtain ⟨ns, ens⟩ := keys_ints (ks.map (·.1))
    obtain ⟨xs, exs⟩ := keys_strs (ks.map (·.1))
    rw [ens, kV_int] at h3'
    refine ⟨N, ns, rfl, SqL.of h3', fun ns' P1 pm1 st1 nP1 => ?_⟩
    have s5 := s4.trans (same_new nP1 (.lst (ns'.map V.int)))
    have hP1 : (upd H4 P1 (.lst (ns'.map V.int))) P1 = some (.lst (ns'.map V.int)) := upd_same
    generalize upd H4 P1 (.lst (ns'.map V.int)) = H5 at s5 hP1 ⊢
    have ha5 := s5 _ _ ha2
    refine ⟨a, .dK kvs, ha5, True.intro, fun oe => ?_⟩
    refine ⟨_, rfl, a, oe, rfl, .inl ⟨kvs, upd_same, fun M hM => inner walk_keys (fun i H' => H' M = some (.lst ((strK ((kvs.map (·.1)).take i)).map kV)) ∧ H' a = some (.frz oe (.dK kvs)) ∧ Same (upd H5 a (.frz oe (.dK kvs))) H') ⟨upd_same, by rw [upd_ne (fun z => by rw [← z, upd_same] at hM; cases hM)]; exact upd_same, same_new hM _⟩ (fun i H' _ hh => hh.2.1) ?_ ?_⟩⟩
    · rintro i x H6 H6' hi ⟨h6, h7, s6⟩ ⟨rfl, key, wv, ek, rfl⟩
      have eki : (kvs.map (·.1))[i]? = some key := by rw [List.getElem?_map, ek]; rfl
      have Ma : a ≠ M := fun z => by rw [z, h6] at h7; cases h7
      cases key with
      | inr y =>
        refine ⟨rfl, _, rfl, _, _, _, _, true, rfl, .ty _, .base (.str _), kit_ty (by decide +kernel), _, rfl, ?_⟩
        refine ⟨_, rfl, _, h6, ?_, ?_, ?_, same_upd hM _ s6⟩
        · rw [List.length_map]
          have := strK_len ((kvs.map (·.1)).take i)
          rw [List.length_take, List.length_map] at this
          exact small1000 (by omega)
        · rw [upd_same, (intK_take_str eki).2, List.map_append]; rfl
        · rw [upd_ne Ma]; exact h7
      | inl m =>
        refine ⟨rfl, _, rfl, _, _, _, _, false, rfl, .ty _, .base (.int _), kit_ty (by decide +kernel), _, rfl, ?_⟩
        refine ⟨?_, h7, s6⟩
        rw [(intK_take_int eki).2]; exact h6
    rintro H6 ⟨h6, h7, s6⟩
    rw [← List.length_map (f := (·.1)), List.take_length, ekeys] at h6
    refine ⟨h7, ?_⟩
    have s7 := unlock_same ha5 s6
    have Ma : M ≠ a := fun z => by rw [z, h7] at h6; cases h6
    have h6' : (upd H6 a (.dK kvs)) M = some (.lst ((strK (ks.map (·.1))).map kV)) := by rw [upd_ne Ma]; exact h6
    generalize upd H6 a (.dK kvs) = H7 at s7 h6' ⊢
    rw [exs, kV_str] at h6'
    have lxs : xs.length ≤ 4 := by
      have := strK_len (ks.map (·.1))
      rw [exs, List.length_map, List.length_map] at this
      omega
    have lns : ns.length ≤ 4 := by
      have := intK_len (ks.map (·.1))
      rw [ens, List.length_map, List.length_map] at this
      omega
    refine ⟨M, xs, rfl, SqL.of h6', by omega, fun xs' P2 pm2 st2 nP2 => ?_⟩
    have s8 := s7.trans (same_new nP2 (.lst (xs'.map V.str)))
    have hP2 : (upd H7 P2 (.lst (xs'.map V.str))) P2 = some (.lst (xs'.map V.str)) := upd_same
    generalize upd H7 P2 (.lst (xs'.map V.str)) = H8 at s8 hP2 ⊢
    refine ⟨_, rfl, _, rfl, _, _, _, _, rfl, rfl, s8 _ _ hP1, hP2, ?_, fun U hU => ?_⟩
    · rw [List.length_map, List.length_map, pm1.length_eq, pm2.length_eq]; exact Nat.le_of_lt (small1000 (by omega))
    have UF : U ≠ F := (ne_of_none (s8 _ _ (s5 _ _ hF2)) hU).symm
    rw [keys_join ens exs pm1 st1 pm2 st2]
    have hU9 : (upd H8 U (.lst ((sortK (ks.map (·.1))).map kV))) U = some (.lst ((sortK (ks.map (·.1))).map kV)) := upd_same
    have s9 := s8.trans (same_new hU (.lst ((sortK (ks.map (·.1))).map kV)))
    generalize upd H8 U (.lst ((sortK (ks.map (·.1))).map kV)) = H9 at s9 hU9 ⊢
    have S9 := s2.trans (s5.trans s9)
    have F9 := s9 _ _ (s5 _ _ hF2)
    have pl := plen_3 n4
    have lsk : (sortK (ks.map (·.1))).length = ks.length := by rw [sortK_len, List.length_map]
    refine ⟨U, rfl, ⟨_, SqL.of hU9⟩, for_list (K := K) (a := U) (xs := (sortK (ks.map (·.1))).map kV) (fun i σ H' => (∃ v, σ = [some (.ref a), some (.ref F), v, some (.ref P1), some (.ref P2)]) ∧ H' F = some (.lst (((8 : Int) :: nb ks.length 2 ++ ((sortK (ks.map (·.1))).take i).flatMap (entD ks)).map V.int)) ∧ H' U = some (.lst ((sortK (ks.map (·.1))).map kV)) ∧ Same H H') ⟨⟨none, rfl⟩, ?_, hU9, S9⟩ (fun i σ H' _ hh => SqL.of hh.2.2.1) ?_ ?_⟩
    · rw [F9]; simp
    · rintro i x σ H10 hi ⟨⟨v, rfl⟩, h10, hU10, s10⟩
      obtain ⟨key, ek, rfl⟩ : ∃ key, (sortK (ks.map (·.1)))[i]? = some key ∧ x = kV key := by
        rw [List.getElem?_map] at hi
        cases e : (sortK (ks.map (·.1)))[i]? with
        | none => rw [e] at hi; cases hi
        | some k0 => rw [e] at hi; cases hi; exact ⟨k0, rfl, rfl⟩
      have hk : key ∈ ks.map (·.1) := sortK_mem.mp (List.mem_of_getElem? ek)
      have hil : i < ks.length := by rw [← lsk]; exact (List.getElem?_eq_some_iff.mp ek).1
      have hm := lkG_in hk
      have ok1 : okS (kV key) := okk _ hm
      have ok2 : DOk n (lkG ks key) := okg _ hm
      have b1 := ents_len (xs := (sortK (ks.map (·.1))).take i) okk okg fun k0 hk0 => sortK_mem.mp (List.mem_of_mem_take hk0)
      have b2 : ((sortK (ks.map (·.1))).take i).length * (403 + plen n) ≤ 4 * (403 + plen n) := Nat.mul_le_mul_right _ (by rw [List.length_take]; omega)
      have b3 := packS_len ok1
      have b4 := pack_len ok2
      refine ⟨_, rfl, .inl ⟨rfl, _, SqL.of h10⟩, _, rfl, kV key, .s (kV key), [], rfl, .s ok1.scal, .s ok1, by omega, fun p H11 h11 s11 _ => ?_⟩
      have h11F := s11 _ _ h10
      refine ⟨F, p, _, _, rfl, rfl, h11F, h11, ?_, ?_⟩
      · rw [List.length_map, List.length_map, List.length_append, List.length_cons, nb_len]
        have e : (packM (.s (kV key))).length ≤ 403 := by rw [packM]; exact b3
        exact small6 (by omega)
      rw [← List.map_append]
      have s12 := same_upd F0 (.lst (((8 : Int) :: nb ks.length 2 ++ ((sortK (ks.map (·.1))).take i).flatMap (entD ks) ++ packM (.s (kV key))).map V.int)) (s10.trans s11)
      have h12 : (upd H11 F (.lst (((8 : Int) :: nb ks.length 2 ++ ((sortK (ks.map (·.1))).take i).flatMap (entD ks) ++ packM (.s (kV key))).map V.int))) F = some (.lst (((8 : Int) :: nb ks.length 2 ++ ((sortK (ks.map (·.1))).take i).flatMap (entD ks) ++ packM (.s (kV key))).map V.int)) := upd_same
      have hU12 : (upd H11 F (.lst (((8 : Int) :: nb ks.length 2 ++ ((sortK (ks.map (·.1))).take i).flatMap (entD ks) ++ packM (.s (kV key))).map V.int))) U = some (.lst ((sortK (ks.map (·.1))).map kV)) := by rw [upd_ne UF]; exact s11 _ _ hU10
      generalize upd H11 F (.lst (((8 : Int) :: nb ks.length 2 ++ ((sortK (ks.map (·.1))).take i).flatMap (entD ks) ++ packM (.s (kV key))).map V.int)) = H12 at s12 h12 hU12 ⊢
      obtain ⟨v2, E2, ev2, p2, i2⟩ := r.lk nd hk
      have gd : DGet H12 a (kV key) (some v2) := by
        have g := DGet.k (k := key) (s12 _ _ ha)
        rw [ev2] at g; exact g
      refine ⟨_, rfl, .inl ⟨rfl, _, SqL.of h12⟩, _, rfl, _, rfl, a, v2, rfl, gd, v2, lkG ks key, E2, rfl, p2.mono s12, ok2, by omega, fun p' H13 h13 s13 _ => ?_⟩
      refine ⟨F, p', _, _, rfl, rfl, s13 _ _ h12, h13, ?_, ⟨_, rfl⟩, ?_, ?_, same_upd F0 _ (s12.trans s13)⟩
      · rw [List.length_map, List.length_map, List.length_append, List.length_append, List.length_cons, nb_len]
        have e : (packM (.s (kV key))).length ≤ 403 := by rw [packM]; exact b3
        exact small6 (by omega)
      · rw [upd_same, ent_take ek, ← List.map_append]
        unfold entD
        rw [packM]
        simp only [List.append_assoc]
      · rw [upd_ne UF]; exact s13 _ _ hU12
    · rintro σ H10 ⟨⟨v, rfl⟩, h10, hU10, s10⟩
      refine ⟨_, rfl, q F H10 ?_ s10 F0⟩
      rw [List.length_map, List.take_length] at h10
      rw [h10, packM_dD]
      simp)
theorem ok_pack {n : Nat} {f gi gd gm gt : Addr} {fd gid gdd gmd gtd : FuncData} (k : Kn K mg "pack" s_pack ["data"] f fd) (z : Z mg)
    (c_packed_number : Cal P w K mg base 2 "packed_number" ["number"] spPNum gm gmd)
    (c_packed_text : Cal P w K mg base 2 "packed_text" ["text"] spPTxt gt gtd)
    (c_packed_items : Cal P w K mg base (2 * n + 4) "packed_items" ["first", "items"] (spPItems n) gi gid)
    (c_packed_dict : Cal P w K mg base (2 * n + 4) "packed_dict" ["table"] (spPDict n) gd gdd) : Cal P w K mg base (2 * n + 5) "pack" ["data"] (spPack (n + 1)) f fd := k.cal (by
  obtain ⟨t_NULL, k_NULL⟩ := z.c_NULL
  obtain ⟨t_TRUE, k_TRUE⟩ := z.c_TRUE
  obtain ⟨t_FALSE, k_FALSE⟩ := z.c_FALSE
  obtain ⟨t_TUPLE, k_TUPLE⟩ := z.c_TUPLE
  obtain ⟨t_LIST, k_LIST⟩ := z.c_LIST
  refine k.F.ok sc_pack (fun vs H Q E h => ?_) (fun cdv A outer s H vs Q E hr h => ?_)
  · obtain ⟨v, g, D, rfl, _⟩ := h; rfl
  · obtain ⟨v, g, D, rfl, hg, ok, n4, q⟩ := h
    refine ⟨_, (pss_cons (ps_if (pt_cmpR op_isN (pv 0) pe_non (nomark _)) (pss_one (ps_ret (pe_lst (pa_cons (pe_glob (v := .int (0)) rfl k_NULL ⟨_, rfl⟩) pa_nil)))) pss_nil)
    (pss_cons (ps_if (pt_val (pe_callB call_isi (by rfl) z.isinstance (by decide +kernel) (pa_cons (pv 0) (pa_cons (pe_bltn (v := .ty "bool") (u := .type "bool") (by rfl) z.bool (by decide +kernel) rfl) pa_nil)))) (pss_one (ps_ret (pe_lst (pa_cons (pe_ifExp (pt_val (pv 0)) (pe_glob (v := .int (2)) rfl k_TRUE ⟨_, rfl⟩) (pe_glob (v := .int (1)) rfl k_FALSE ⟨_, rfl⟩)) pa_nil)))) pss_nil)
    (pss_cons (ps_if (pt_val (pe_callB call_isi (by rfl) z.isinstance (by decide +kernel) (pa_cons (pv 0) (pa_cons (pe_bltn (v := .ty "int") (u := .type "int") (by rfl) z.int (by decide +kernel) rfl) pa_nil)))) (pss_one (ps_ret (pe_call c_packed_number.G (hr.mono (by omega)) (by rfl) c_packed_number.m c_packed_number.kp c_packed_number.b .nil pass0 (pa_cons (pv 0) pa_nil)))) pss_nil)
    (pss_cons (ps_if (pt_val (pe_callB call_isi (by rfl) z.isinstance (by decide +kernel) (pa_cons (pv 0) (pa_cons (pe_bltn (v := .ty "str") (u := .type "str") (by rfl) z.str (by decide +kernel) rfl) pa_nil)))) (pss_one (ps_ret (pe_call c_packed_text.G (hr.mono (by omega)) (by rfl) c_packed_text.m c_packed_text.kp c_packed_text.b .nil pass0 (pa_cons (pv 0) pa_nil)))) pss_nil)
    (pss_cons (ps_if (pt_val (pe_callB call_isi (by rfl) z.isinstance (by decide +kernel) (pa_cons (pv 0) (pa_cons (pe_bltn (v := .ty "tuple") (u := .type "tuple") (by rfl) z.tuple (by decide +kernel) rfl) pa_nil)))) (pss_one (ps_ret (pe_call c_packed_items.G (hr.mono (by omega)) (by rfl) c_packed_items.m c_packed_items.kp c_packed_items.b .nil pass0 (pa_cons (pe_glob (v := .int (6)) rfl k_TUPLE ⟨_, rfl⟩) (pa_cons (pv 0) pa_nil))))) pss_nil)
    (pss_cons (ps_if (pt_val (pe_callB call_isi (by rfl) z.isinstance (by decide +kernel) (pa_cons (pv 0) (pa_cons (pe_bltn (v := .ty "list") (u := .type "list") (by rfl) z.list (by decide +kernel) rfl) pa_nil)))) (pss_one (ps_ret (pe_call c_packed_items.G (hr.mono (by omega)) (by rfl) c_packed_items.m c_packed_items.kp c_packed_items.b .nil pass0 (pa_cons (pe_glob (v := .int (7)) rfl k_LIST ⟨_, rfl⟩) (pa_cons (pv 0) pa_nil))))) pss_nil)
    (pss_one (ps_ret (pe_call c_packed_dict.G (hr.mono (by omega)) (by rfl) c_packed_dict.m c_packed_dict.kp c_packed_dict.b .nil pass0 (pa_cons (pv 0) pa_nil)))))))))), ?_⟩
    cases ok with
    | @s _ v' okv =>
      cases hg with
      | s hs =>
      have hT : ∃ t : String, TyX K H v (.type t) ∧ (v = .non ∧ t = "NoneType" ∨ (∃ b, v = .bl b) ∧ t = "bool" ∨ (∃ i, v = .int i) ∧ t = "int" ∨ (∃ z, v = .str z) ∧ t = "str") := ty_scal hs
      obtain ⟨t, hT, c⟩ := hT
      rw [packM] at q
      rcases c with ⟨rfl, rfl⟩ | ⟨⟨b, rfl⟩, rfl⟩ | ⟨⟨i, rfl⟩, rfl⟩ | ⟨⟨y, rfl⟩, rfl⟩
      · refine ⟨_, rfl, rfl, _, rfl, iteDT rfl ?_⟩
        exact ⟨(by show 1 ≤ sizeLine; decide), fun p hp => q p _ upd_same (same_new hp _) hp⟩
      · refine ⟨_, rfl, rfl, _, rfl, iteDF (fun e => nomatch e) ⟨_, rfl, _, _, _, _, true, rfl, .ty _, hT, kit_ty (by decide +kernel), _, rfl, ?_⟩⟩
        refine ⟨_, rfl, b, rfl, ?_⟩
        cases b with
        | true => exact iteT ⟨(by show 1 ≤ sizeLine; decide), fun p hp => q p _ upd_same (same_new hp _) hp⟩
        | false => exact iteF ⟨(by show 1 ≤ sizeLine; decide), fun p hp => q p _ upd_same (same_new hp _) hp⟩
      · refine ⟨_, rfl, rfl, _, rfl, iteDF (fun e => nomatch e) ⟨_, rfl, _, _, _, _, false, rfl, .ty _, hT, kit_ty (by decide +kernel), _, rfl, ?_⟩⟩
        refine ⟨_, rfl, _, _, _, _, true, rfl, .ty _, hT, kit_ty (by decide +kernel), _, rfl, ?_⟩
        exact ⟨_, rfl, i, rfl, q⟩
      · refine ⟨_, rfl, rfl, _, rfl, iteDF (fun e => nomatch e) ⟨_, rfl, _, _, _, _, false, rfl, .ty _, hT, kit_ty (by decide +kernel), _, rfl, ?_⟩⟩
        refine ⟨_, rfl, _, _, _, _, false, rfl, .ty _, hT, kit_ty (by decide +kernel), _, rfl, ?_⟩
        refine ⟨_, rfl, _, _, _, _, true, rfl, .ty _, hT, kit_ty (by decide +kernel), _, rfl, ?_⟩
        exact ⟨_, rfl, y, rfl, okv, q⟩
    | @t m gs l4 okg =>
      cases hg with
      | @t a xs _ _ ha hn r =>
      have hT : TyX K H (.ref a) (.type "tuple") := .base (.tup ha)
      refine ⟨_, rfl, rfl, _, rfl, iteDF (fun e => nomatch e) ⟨_, rfl, _, _, _, _, false, rfl, .ty _, hT, kit_ty (by decide +kernel), _, rfl, ?_⟩⟩
      refine ⟨_, rfl, _, _, _, _, false, rfl, .ty _, hT, kit_ty (by decide +kernel), _, rfl, ?_⟩
      refine ⟨_, rfl, _, _, _, _, false, rfl, .ty _, hT, kit_ty (by decide +kernel), _, rfl, ?_⟩
      refine ⟨_, rfl, _, _, _, _, true, rfl, .ty _, hT, kit_ty (by decide +kernel), _, rfl, ?_⟩
      rw [packM] at q
      exact ⟨_, rfl, 6, a, xs, gs, _, rfl, .inr ha, r, l4, okg, by omega, q⟩
    | @l m gs l4 okg =>
      cases hg with
      | @l a xs _ _ ha hn r =>
      have hT : TyX K H (.ref a) (.type "list") := .base (.lst ha)
      refine ⟨_, rfl, rfl, _, rfl, iteDF (fun e => nomatch e) ⟨_, rfl, _, _, _, _, false, rfl, .ty _, hT, kit_ty (by decide +kernel), _, rfl, ?_⟩⟩
      refine ⟨_, rfl, _, _, _, _, false, rfl, .ty _, hT, kit_ty (by decide +kernel), _, rfl, ?_⟩
      refine ⟨_, rfl, _, _, _, _, false, rfl, .ty _, hT, kit_ty (by decide +kernel), _, rfl, ?_⟩
      refine ⟨_, rfl, _, _, _, _, false, rfl, .ty _, hT, kit_ty (by decide +kernel), _, rfl, ?_⟩
      refine ⟨_, rfl, _, _, _, _, true, rfl, .ty _, hT, kit_ty (by decide +kernel), _, rfl, ?_⟩
      rw [packM] at q
      exact ⟨_, rfl, 7, a, xs, gs, _, rfl, .inl ha, r, l4, okg, by omega, q⟩
    | @d m ks l4 nd okk okg =>
      cases hg with
      | @d a kvs _ _ ha hn nd2 r fx =>
      have hT : TyX K H (.ref a) (.type "dict") := .base (.dK ha)
      refine ⟨_, rfl, rfl, _, rfl, iteDF (fun e => nomatch e) ⟨_, rfl, _, _, _, _, false, rfl, .ty _, hT, kit_ty (by decide +kernel), _, rfl, ?_⟩⟩
      refine ⟨_, rfl, _, _, _, _, false, rfl, .ty _, hT, kit_ty (by decide +kernel), _, rfl, ?_⟩
      refine ⟨_, rfl, _, _, _, _, false, rfl, .ty _, hT, kit_ty (by decide +kernel), _, rfl, ?_⟩
      refine ⟨_, rfl, _, _, _, _, false, rfl, .ty _, hT, kit_ty (by decide +kernel), _, rfl, ?_⟩
      refine ⟨_, rfl, _, _, _, _, false, rfl, .ty _, hT, kit_ty (by decide +kernel), _, rfl, ?_⟩
      exact ⟨_, rfl, a, kvs, ks, _, rfl, ha, r, fx, l4, nd, okk, okg, by omega, q⟩)
theorem ok_law_packs {f gi gd gn gm gt : Addr} {fd gid gdd gnd gmd gtd : FuncData} (k : Kn K mg "pack" s_pack ["data"] f fd) (kI : Kn K mg "packed_items" s_packed_items ["first", "items"] gi gid) (kD : Kn K mg "packed_dict" s_packed_dict ["table"] gd gdd) (z : Z mg)
    (c_number_bytes : Cal P w K mg base 1 "number_bytes" ["number", "many"] spNB gn gnd)
    (c_packed_number : Cal P w K mg base 2 "packed_number" ["number"] spPNum gm gmd)
    (c_packed_text : Cal P w K mg base 2 "packed_text" ["text"] spPTxt gt gtd) : ∀ n : Nat, Cal P w K mg base (2 * n + 3) "pack" ["data"] (spPack n) f fd
  | 0 => k.cal no_pack
  | 1 => ok_pack (n := 0) k z c_packed_number c_packed_text (kI.cal no_pitems) (kD.cal no_pdict)
  | n + 2 => by
    have h := ok_law_packs k kI kD z c_number_bytes c_packed_number c_packed_text (n + 1)
    exact ok_pack (n := n + 1) k z c_packed_number c_packed_text (ok_packed_items kI z c_number_bytes h) (ok_packed_dict kD z c_number_bytes h)
theorem ok_frame {f : Addr} {fd : FuncData} (k : Kn K mg "frame" s_frame ["record"] f fd) (z : Z mg)
    {g_pack : Addr} {gd_pack : FuncData} (c_pack : Cal P w K mg base 13 "pack" ["data"] (spPack 5) g_pack gd_pack)
    {g_number_bytes : Addr} {gd_number_bytes : FuncData} (c_number_bytes : Cal P w K mg base 1 "number_bytes" ["number", "many"] (spNB) g_number_bytes gd_number_bytes) :
    Cal P w K mg base 14 "frame" ["record"] (spFrame) f fd := k.cal (by
  obtain ⟨t_HEAD_BYTES, k_HEAD_BYTES⟩ := z.c_HEAD_BYTES
  refine k.F.ok sc_frame (fun vs H Q E h => ?_) (fun cdv A outer s H vs Q E hr h => ?_)
  · obtain ⟨v, g, D, rfl, _⟩ := h; rfl
  · obtain ⟨v, g, D, rfl, hg, ok, q⟩ := h
    refine ⟨_, (pss_cons (ps_set (i := 1) sc_frame.nd rfl (Or.inl rfl) (pe_call c_pack.G (hr.mono (by decide)) (by rfl) c_pack.m c_pack.kp c_pack.b .nil pass0 (pa_cons (pv 0) pa_nil)))
        (pss_one (ps_ret (pe_op op_cat (pe_call c_number_bytes.G (hr.mono (by decide)) (by rfl) c_number_bytes.m c_number_bytes.kp c_number_bytes.b .nil pass0 (pa_cons (pe_callB call_len_seq (by rfl) z.len (by decide +kernel) (pa_cons (pv 1) pa_nil)) (pa_cons (pe_glob (v := .int (4)) rfl k_HEAD_BYTES ⟨_, rfl⟩) pa_nil))) (pv 1))))), ?_⟩
    have hl : (packM g).length ≤ 300000 := Nat.le_trans (pack_len ok) plen4
    refine ⟨_, rfl, v, g, D, rfl, hg, ok, by decide, fun p H1 hp s1 np => ?_⟩
    refine ⟨_, rfl, p, _, rfl, .inl (SqL.of hp), ((packM g).map V.int).length, 4, rfl, by decide, fun p2 H2 hp2 s2 n2 => ?_⟩
    refine ⟨_, rfl, _, _, _, _, rfl, rfl, hp2, s2 _ _ hp, ?_, fun r hr => ?_⟩
    · rw [List.length_map, List.length_map, nb_len]; exact small6 (by omega)
    have S := s1.trans s2
    refine q r _ ?_ (same_upd (S.free hr) _ S) (S.free hr)
    rw [upd_same, List.length_map, ← List.map_append]; rfl)
theorem ok_bytes_number {f : Addr} {fd : FuncData} (k : Kn K mg "bytes_number" s_bytes_number ["numbers"] f fd) (z : Z mg) :
    Cal P w K mg base 1 "bytes_number" ["numbers"] (spBNum) f fd := k.cal (by
  refine k.F.ok sc_bytes_number (fun vs H Q E h => ?_) (fun cdv A outer s H vs Q E hr h => ?_)
  · obtain ⟨B, bs, rfl, _⟩ := h; rfl
  · obtain ⟨B, bs, rfl, hB, hl, q⟩ := h
    refine ⟨_, (pss_cons (ps_set (i := 1) sc_bytes_number.nd rfl (Or.inl rfl) pe_int)
        (pss_cons (ps_for PassesOwn.never rfl (pi_list (pv 0)) (pg_name (i := 2) sc_bytes_number.nd rfl (Or.inl rfl))
        (pss_one (ps_set (i := 1) sc_bytes_number.nd rfl (Or.inl rfl) (pe_op op_add (pe_op op_mul (pv 1) pe_int) (pv 2)))))
        (pss_one (ps_ret (pv 1))))), ?_⟩
    refine ⟨_, rfl, B, rfl, ⟨_, SqL.of hB⟩, for_list (K := K) (a := B) (xs := bs.map V.int) (fun i σ H' => ∃ v, σ = [some (.ref B), some (.int (valB (bs.take i))), v] ∧ H' = H) ⟨none, rfl, rfl⟩ (fun i σ H' _ ⟨_, _, e⟩ => by rw [e]; exact SqL.of hB) ?_ ?_⟩
    · rintro i x σ H1 hi ⟨v, rfl, rfl⟩
      obtain ⟨b, rfl, hb⟩ := int_at hi
      refine ⟨_, rfl, _, _, rfl, rfl, .inr ⟨by decide, by decide⟩, _, rfl, _, _, rfl, rfl, ?_⟩
      refine ⟨some (.int b), ?_, rfl⟩
      have e : valB (bs.take (i + 1)) = valB (bs.take i) * 256 + b := by
        rw [List.take_add_one, hb]
        exact valB_snoc _ _
      rw [e]
      rfl
    · rintro σ H1 ⟨v, rfl, rfl⟩
      refine ⟨_, rfl, ?_⟩
      rw [List.length_map, List.take_length]
      exact q)
theorem ok_read_number {f : Addr} {fd : FuncData} (k : Kn K mg "read_number" s_read_number ["numbers", "at", "many"] f fd) (z : Z mg)
    {g_bytes_number : Addr} {gd_bytes_number : FuncData} (c_bytes_number : Cal P w K mg base 1 "bytes_number" ["numbers"] (spBNum) g_bytes_number gd_bytes_number) :
    Cal P w K mg base 2 "read_number" ["numbers", "at", "many"] (spRNum) f fd := k.cal (by
  refine k.F.ok sc_read_number (fun vs H Q E h => ?_) (fun cdv A outer s H vs Q E hr h => ?_)
  · obtain ⟨B, bs, a, k, rfl, _⟩ := h; rfl
  · obtain ⟨B, bs, a, kk, rfl, hB, hl, hk, k10, q⟩ := h
    refine ⟨_, (pss_cons (ps_if (pt_cmpR op_gt (pe_op op_add (pv 1) (pv 2)) (pe_callB call_len_seq (by rfl) z.len (by decide +kernel) (pa_cons (pv 0) pa_nil)) (nomark _)) (pss_one ps_no0) pss_nil)
        (pss_one (ps_ret (pe_call c_bytes_number.G (hr.mono (by decide)) (by rfl) c_bytes_number.m c_bytes_number.kp c_bytes_number.b .nil pass0 (pa_cons (pe_slice sl_list (pv 0) (po_some (pv 1)) (po_some (pe_op op_add (pv 1) (pv 2)))) pa_nil))))), ?_⟩
    refine ⟨_, rfl, _, rfl, _, _, rfl, rfl, _, rfl, B, _, rfl, .inl (SqL.of hB), _, _, rfl, rfl, _, rfl, iteDF (by rw [List.length_map]; omega) ?_⟩
    refine ⟨_, rfl, _, rfl, _, rfl, _, rfl, _, rfl, _, _, rfl, rfl, _, rfl, B, _, rfl, SqL.of hB, fun D hD => ?_⟩
    refine ⟨D, (bs.drop a).take kk, rfl, ?_, by rw [List.length_take]; omega, q _ (same_new hD _)⟩
    rw [upd_same, cut_mid _ _ _ (by rw [List.length_map]; omega), List.map_take, List.map_drop])
theorem ok_read_negative {f : Addr} {fd : FuncData} (k : Kn K mg "read_negative" s_read_negative ["numbers", "at"] f fd) (z : Z mg)
    {g_read_number : Addr} {gd_read_number : FuncData} (c_read_number : Cal P w K mg base 2 "read_number" ["numbers", "at", "many"] (spRNum) g_read_number gd_read_number) :
    Cal P w K mg base 3 "read_negative" ["numbers", "at"] (spRNeg) f fd := k.cal (by
  obtain ⟨t_NUMBER_BYTES, k_NUMBER_BYTES⟩ := z.c_NUMBER_BYTES
  refine k.F.ok sc_read_negative (fun vs H Q E h => ?_) (fun cdv A outer s H vs Q E hr h => ?_)
  · obtain ⟨B, bs, a, n, rfl, _⟩ := h; rfl
  · obtain ⟨B, bs, a, n, rfl, hB, hl, hat, n0, n1, q⟩ := h
    refine ⟨_, (pss_cons (ps_set (i := 2) sc_read_negative.nd rfl (Or.inl rfl) (pe_call c_read_number.G (hr.mono (by decide)) (by rfl) c_read_number.m c_read_number.kp c_read_number.b .nil pass0 (pa_cons (pv 0) (pa_cons (pe_op op_add (pv 1) pe_int) (pa_cons (pe_glob (v := .int (4)) rfl k_NUMBER_BYTES ⟨_, rfl⟩) pa_nil)))))
        (pss_cons (ps_if (pt_cmpR op_eq (pv 2) pe_int (nomark _)) (pss_one ps_no0) pss_nil)
        (pss_one (ps_ret (pe_un un_neg (pv 2)))))), ?_⟩
    obtain ⟨l1, e1⟩ := nb4 (k := 4) (rest := []) (by rw [List.append_nil]; exact hat) (by omega) (by decide)
    refine ⟨_, rfl, _, rfl, _, _, rfl, rfl, B, bs, a + 1, 4, rfl, hB, hl, l1, by decide, fun H1 s1 => ?_⟩
    rw [e1]
    refine ⟨_, rfl, rfl, _, rfl, iteDF (fun e => ?_) ⟨_, rfl, _, rfl, q H1 s1⟩⟩
    have := V.int.inj e
    omega)
theorem ok_is_text_code {f : Addr} {fd : FuncData} (k : Kn K mg "is_text_code" s_is_text_code ["code"] f fd) (z : Z mg) :
    Cal P w K mg base 1 "is_text_code" ["code"] (spIsCode) f fd := k.cal (by
  obtain ⟨t_PERCENT_CODE, k_PERCENT_CODE⟩ := z.c_PERCENT_CODE
  obtain ⟨t_LAST_CODE, k_LAST_CODE⟩ := z.c_LAST_CODE
  obtain ⟨t_FIRST_CODE, k_FIRST_CODE⟩ := z.c_FIRST_CODE
  refine k.F.ok sc_is_text_code (fun vs H Q E h => ?_) (fun cdv A outer s H vs Q E hr h => ?_)
  · obtain ⟨c, rfl, _⟩ := h; rfl
  · obtain ⟨c, rfl, q⟩ := h
    refine ⟨_, (pss_one (ps_ret (pe_and (pe_cmpR op_le (pe_glob (v := .int (32)) rfl k_FIRST_CODE ⟨_, rfl⟩) (pv 0) (nomark _)) (pe_and (pe_cmpR op_le (pv 0) (pe_glob (v := .int (126)) rfl k_LAST_CODE ⟨_, rfl⟩) (nomark _)) (pe_one (pe_cmpR op_ne (pv 0) (pe_glob (v := .int (37)) rfl k_PERCENT_CODE ⟨_, rfl⟩) (nomark _))))))), ?_⟩
    refine ⟨_, rfl, _, _, rfl, rfl, _, rfl, ?_⟩
    refine ifD (fun h1 => ?_) (fun h1 => ?_)
    · refine ⟨_, rfl, _, _, rfl, rfl, _, rfl, ?_⟩
      refine ifD (fun h2 => ?_) (fun h2 => ?_)
      · refine ⟨_, rfl, rfl, ?_⟩
        have e : (!decide (V.int c = V.int 37)) = decide (codeOk c) := by
          by_cases h3 : c = 37
          · subst h3; decide
          · have a : ¬ (V.int c = V.int 37) := fun z => h3 (V.int.inj z)
            rw [decide_eq_false a, decide_eq_true (show codeOk c from ⟨h1, h2, h3⟩)]
            rfl
        rw [e]
        exact q
      · rw [decide_eq_false (show ¬ codeOk c from fun z => h2 z.2.1)] at q
        exact q
    · rw [decide_eq_false (show ¬ codeOk c from fun z => h1 z.1)] at q
      exact q)
theorem ok_read_text {f : Addr} {fd : FuncData} (k : Kn K mg "read_text" s_read_text ["numbers", "at"] f fd) (z : Z mg)
    {g_read_number : Addr} {gd_read_number : FuncData} (c_read_number : Cal P w K mg base 2 "read_number" ["numbers", "at", "many"] (spRNum) g_read_number gd_read_number)
    {g_is_text_code : Addr} {gd_is_text_code : FuncData} (c_is_text_code : Cal P w K mg base 1 "is_text_code" ["code"] (spIsCode) g_is_text_code gd_is_text_code) :
    Cal P w K mg base 3 "read_text" ["numbers", "at"] (spRTxt) f fd := k.cal (by
  obtain ⟨t_LENGTH_BYTES, k_LENGTH_BYTES⟩ := z.c_LENGTH_BYTES
  obtain ⟨t_CHARACTERS, k_CHARACTERS⟩ := z.c_CHARACTERS
  obtain ⟨t_FIRST_CODE, k_FIRST_CODE⟩ := z.c_FIRST_CODE
  refine k.F.ok sc_read_text (fun vs H Q E h => ?_) (fun cdv A outer s H vs Q E hr h => ?_)
  · obtain ⟨B, bs, a, z, rfl, _⟩ := h; rfl
  · obtain ⟨B, bs, a, y, rfl, hB, hl, oky, hat, q⟩ := h
    refine ⟨_, (pss_cons (ps_set (i := 2) sc_read_text.nd rfl (Or.inl rfl) (pe_call c_read_number.G (hr.mono (by decide)) (by rfl) c_read_number.m c_read_number.kp c_read_number.b .nil pass0 (pa_cons (pv 0) (pa_cons (pe_op op_add (pv 1) pe_int) (pa_cons (pe_glob (v := .int (2)) rfl k_LENGTH_BYTES ⟨_, rfl⟩) pa_nil)))))
        (pss_cons (ps_set (i := 3) sc_read_text.nd rfl (Or.inl rfl) (pe_op op_add (pe_op op_add (pv 1) pe_int) (pe_glob (v := .int (2)) rfl k_LENGTH_BYTES ⟨_, rfl⟩)))
        (pss_cons (ps_set (i := 4) sc_read_text.nd rfl (Or.inl rfl) (pe_slice sl_list (pv 0) (po_some (pv 3)) (po_some (pe_op op_add (pv 3) (pv 2)))))
        (pss_cons (ps_for PassesOwn.never rfl (pi_enum (by rfl) z.enumerate (pa_cons (pv 4) pa_nil)) (pg_tup (by rfl) (pgs_cons (pg_name (i := 5) sc_read_text.nd rfl (Or.inl rfl)) (pgs_cons (pg_name (i := 6) sc_read_text.nd rfl (Or.inl rfl)) pgs_nil)))
        (pss_one (ps_if (pt_not (pt_val (pe_call c_is_text_code.G (hr.mono (by decide)) (by rfl) c_is_text_code.m c_is_text_code.kp c_is_text_code.b .nil pass0 (pa_cons (pv 6) pa_nil)))) (pss_one ps_no0) pss_nil)))
        (pss_cons (ps_if (pt_cmpR op_lt (pe_callB call_len_seq (by rfl) z.len (by decide +kernel) (pa_cons (pv 4) pa_nil)) (pv 2) (nomark _)) (pss_one ps_no0) pss_nil)
        (pss_one (ps_ret (pe_tup (pa_cons (pe_join pe_str (pe_lc (own := [("code", 6)]) (g := gName 6) (tt := tYes) (by rfl) sc_read_text.nd (pi_list (pv 4)) (blkOk_by (own := [("code", 6)]) (N := ["numbers", "at", "length", "start", "codes", "place", "code"]) (sc := defScope s_read_text) (by decide +kernel)) (fun _ _ _ _ _ => pg_name (i := 6) sc_read_text.nd rfl (Or.inl rfl)) (fun _ _ _ _ _ => pts_nil) (fun _ _ _ _ _ => (pe_ix ix_str (pe_glob (v := .str " !\"#$ &'()*+,-./0123456789:;<=>?@ABCDEFGHIJKLMNOPQRSTUVWXYZ[\\]^_`abcdefghijklmnopqrstuvwxyz{|}~") rfl k_CHARACTERS ⟨_, rfl⟩) (pe_op op_sub (pv 6) (pe_glob (v := .int (32)) rfl k_FIRST_CODE ⟨_, rfl⟩)) (fun _ _ => rfl))))) (pa_cons (pe_op op_add (pv 3) (pv 2)) pa_nil)))))))))), ?_⟩
    have ly : y.length = (tl y).length := by show y.cps.size = _; simp [tl]
    have l400 : y.length ≤ 400 := oky.1
    have hat' : At bs a ((5 : Int) :: (nb y.length 2 ++ (tl y).map fun c => ((c : Nat) : Int))) := hat
    obtain ⟨l1, e1⟩ := nb4 (k := 2) hat' (by omega) (by decide)
    have hat2 : At bs (a + 3) ((tl y).map fun c => ((c : Nat) : Int)) := by
      have := At.back (ps := (5 : Int) :: nb y.length 2) hat'
      rw [List.length_cons, nb_len] at this
      exact this
    have lt3 : a + 3 + y.length ≤ bs.length := by
      by_cases z : y.length = 0
      · omega
      · have := hat2.len (by intro e; have := congrArg List.length e; rw [List.length_map, ← ly] at this; exact z this)
        rw [List.length_map, ← ly] at this; exact this
    have ec : (bs.drop (a + 3)).take y.length = (tl y).map fun c => ((c : Nat) : Int) := by
      have := hat2.take
      rw [List.length_map, ← ly] at this; exact this
    refine ⟨_, rfl, _, rfl, _, _, rfl, rfl, B, bs, a + 1, 2, rfl, hB, hl, l1, by decide, fun H1 s1 => ?_⟩
    rw [e1]
    refine ⟨_, rfl, _, _, rfl, rfl, _, _, rfl, rfl, ?_⟩
    refine ⟨_, rfl, _, rfl, _, rfl, _, rfl, _, rfl, _, _, rfl, rfl, _, rfl, B, _, rfl, SqL.of (s1 _ _ hB), fun L hL => ?_⟩
    have e3 : cutV (bs.map V.int) (some ((a : Int) + 1 + 2)) (some ((a : Int) + 1 + 2 + (y.length : Nat))) = ((tl y).map fun c => ((c : Nat) : Int)).map V.int := by
      have := cut_mid (bs.map V.int) (a + 3) y.length (by rw [List.length_map]; exact lt3)
      rw [← List.map_drop, ← List.map_take, ec] at this
      exact this
    rw [e3]
    have s2 := s1.trans (same_new hL (.lst (((tl y).map fun c => ((c : Nat) : Int)).map V.int)))
    have hL2 : (upd H1 L (.lst (((tl y).map fun c => ((c : Nat) : Int)).map V.int))) L = some (.lst (((tl y).map fun c => ((c : Nat) : Int)).map V.int)) := upd_same
    generalize upd H1 L (.lst (((tl y).map fun c => ((c : Nat) : Int)).map V.int)) = H2 at s2 hL2 ⊢
    have cds : ∀ (i : Nat) (x : V), (((tl y).map fun c => ((c : Nat) : Int)).map V.int)[i]? = some x → ∃ c : Nat, (tl y)[i]? = some c ∧ x = .int (c : Nat) ∧ chOk c := fun i x e => by
      rw [List.getElem?_map, List.getElem?_map] at e
      cases e2 : (tl y)[i]? with
      | none => rw [e2] at e; cases e
      | some c => rw [e2] at e; cases e; exact ⟨c, rfl, rfl, oky.2 c (List.mem_of_getElem? e2)⟩
    refine ⟨_, rfl, L, _, rfl, SqL.of hL2, for_it walk_enum (fun i σ H' => (∃ v5 v6, σ = [some (.ref B), some (.int a), some (.int y.length), some (.int ((a : Int) + 1 + 2)), some (.ref L), v5, v6]) ∧ Same H2 H') ⟨⟨none, none, rfl⟩, fun _ _ h => h⟩ (fun i σ H' _ hh => SqL.of (hh.2 _ _ hL2)) ?_ ?_⟩
    · rintro i x σ H3 H3' hi ⟨⟨v5, v6, rfl⟩, s3⟩ ⟨T, p, q, rfl, hT, rfl, e5, e6⟩
      cases e5
      obtain ⟨c, e7, rfl, ok⟩ := cds i q e6
      refine ⟨T, _, rfl, SqT.of upd_same, rfl, _, _, rfl, _, _, rfl, rfl, _, rfl, (c : Nat), rfl, _, rfl, ?_⟩
      have dc : decide (codeOk (c : Nat)) = true := decide_eq_true (by obtain ⟨k1, k2, k3⟩ := ok; exact ⟨by omega, by omega, by omega⟩)
      rw [dc]
      refine iteF ⟨⟨_, _, rfl⟩, s3.trans (same_new hT _)⟩
    rintro σ H3 ⟨⟨v5, v6, rfl⟩, s3⟩
    have h3L := s3 _ _ hL2
    refine ⟨_, rfl, L, _, rfl, .inl (SqL.of h3L), _, rfl, _, _, rfl, rfl, _, rfl, iteDF (by rw [List.length_map, List.length_map, ← ly]; omega) ?_⟩
    refine ⟨⟨_, rfl⟩, _, rfl, L, rfl, ⟨_, SqL.of h3L⟩, fun D hD => lc_list (K := K) (a := L) (xs := ((tl y).map fun c => ((c : Nat) : Int)).map V.int) (fun i H' => H' D = some (.lst ((((tl y).take i).map one).map V.str)) ∧ Same H3 H') ⟨upd_same, same_new hD _⟩ (fun i H' _ hh => SqL.of (hh.2 _ _ h3L)) ?_ ?_⟩
    · rintro i x H4 hi ⟨h4, s4⟩
      obtain ⟨c, e7, rfl, ok⟩ := cds i x hi
      refine ⟨rfl, _, rfl, _, _, rfl, rfl, _, _, c, rfl, rfl, (by decide +kernel), charS_at ok, _, h4, ?_, ?_, same_upd hD _ s4⟩
      · rw [List.length_map, List.length_map, List.length_take]; exact small1000 (by omega)
      · rw [upd_same, List.take_add_one, e7]; simp [one]
    rintro H4 ⟨h4, s4⟩
    rw [List.length_map, List.length_map, List.take_length] at h4
    have hsum : (((tl y).map one).map (·.length)).sum + ((tl y).map one).length * ("" : Str).length ≤ 16777216 := by
      have e0 : ("" : Str).length = 0 := by decide +kernel
      rw [sum_ones, e0, Nat.mul_zero]; omega
    refine ⟨_, D, _, rfl, rfl, .inl (SqL.of h4), hsum, _, rfl, _, rfl, _, _, rfl, rfl, (by show 2 ≤ sizeLine; decide), fun T hT => ?_⟩
    have ej : Txt.join ("" : Str) ((tl y).map one) = y := tl_inj (tl_joined _)
    have lp : (packS (.str y)).length = 3 + y.length := by
      show ((5 : Int) :: (nb y.length 2 ++ (tl y).map fun c => ((c : Nat) : Int))).length = _
      rw [List.length_cons, List.length_append, nb_len, List.length_map, ly]; omega
    refine q _ T ?_ ((s2.trans s3).trans (s4.trans (same_new hT _)))
    rw [upd_same, ej, lp]
    have : ((a : Int) + 1 + 2 + (y.length : Nat)) = ((a + (3 + y.length) : Nat) : Int) := by omega
    exact congrArg (fun z => some (HO.tup [V.str y, V.int z])) this)
theorem ok_may_follow {f : Addr} {fd : FuncData} (k : Kn K mg "may_follow" s_may_follow ["key", "before"] f fd) (z : Z mg) :
    Cal P w K mg base 1 "may_follow" ["key", "before"] (spFollow) f fd := k.cal (by
  refine k.F.ok sc_may_follow (fun vs H Q E h => ?_) (fun cdv A outer s H vs Q E hr h => ?_)
  · obtain ⟨k, b, rfl, _⟩ := h; rfl
  · obtain ⟨key, b, rfl, hb, q⟩ := h
    refine ⟨_, (pss_cons (ps_if (PW.pt (pw_or (pt_val (pe_callB call_isi (by rfl) z.isinstance (by decide +kernel) (pa_cons (pv 0) (pa_cons (pe_bltn (v := .ty "bool") (u := .type "bool") (by rfl) z.bool (by decide +kernel) rfl) pa_nil)))) (pw_or1 (pt_not (pt_val (pe_callB call_isiT (by rfl) z.isinstance (by decide +kernel) (pa_cons (pv 0) (pa_cons (pe_tup (pa_cons (pe_bltn (v := .ty "int") (u := .type "int") (by rfl) z.int (by decide +kernel) rfl) (pa_cons (pe_bltn (v := .ty "str") (u := .type "str") (by rfl) z.str (by decide +kernel) rfl) pa_nil))) pa_nil)))))))) (pss_one (ps_ret pe_bl)) pss_nil)
        (pss_cons (ps_if (pt_cmpR op_isN (pv 1) pe_non (nomark _)) (pss_one (ps_ret pe_bl)) pss_nil)
        (pss_cons (ps_if (PW.pt (pw_and (pt_val (pe_callB call_isi (by rfl) z.isinstance (by decide +kernel) (pa_cons (pv 0) (pa_cons (pe_bltn (v := .ty "str") (u := .type "str") (by rfl) z.str (by decide +kernel) rfl) pa_nil)))) (pw_and1 (pt_val (pe_callB call_isi (by rfl) z.isinstance (by decide +kernel) (pa_cons (pv 1) (pa_cons (pe_bltn (v := .ty "int") (u := .type "int") (by rfl) z.int (by decide +kernel) rfl) pa_nil))))))) (pss_one (ps_ret pe_bl)) pss_nil)
        (pss_one (ps_ret (pe_and (pe_cmpR op_eq (pe_callB call_isi (by rfl) z.isinstance (by decide +kernel) (pa_cons (pv 0) (pa_cons (pe_bltn (v := .ty "str") (u := .type "str") (by rfl) z.str (by decide +kernel) rfl) pa_nil))) (pe_callB call_isi (by rfl) z.isinstance (by decide +kernel) (pa_cons (pv 1) (pa_cons (pe_bltn (v := .ty "str") (u := .type "str") (by rfl) z.str (by decide +kernel) rfl) pa_nil))) (nomark _)) (pe_one (pe_cmpR (op_either op_gt op_gt_str) (pv 0) (pv 1) (nomark _))))))))), ?_⟩
    obtain ⟨t, hT, kb, ka⟩ : ∃ t : String, (∀ H, TyX K H (kV key) (.type t)) ∧ PySem.W.kitOne K (.type t) (.type "bool") = some false ∧ PySem.W.kitAny K (.type t) [.type "int", .type "str"] = some true := by
      cases key with
      | inl i => exact ⟨"int", fun H => .base (.int _), kit_ty (by decide +kernel), kitAny_cons (b := true) (kit_ty (by decide +kernel)) (fun e => nomatch e) (fun _ => rfl)⟩
      | inr y => exact ⟨"str", fun H => .base (.str _), kit_ty (by decide +kernel), kitAny_cons (b := false) (kit_ty (by decide +kernel)) (fun _ => kitAny_cons (b := true) (kit_ty (by decide +kernel)) (fun e => nomatch e) (fun _ => rfl)) (fun e => nomatch e)⟩
    refine ⟨_, rfl, _, _, _, _, false, rfl, .ty _, hT _, kb, _, rfl, ?_⟩
    refine ⟨_, rfl, (by show 2 ≤ sizeLine; decide), fun T hT0 => ⟨_, _, _, _, _, true, rfl, upd_same, .cons (.ty _) (.cons (.ty _) .nil), hT _, ka, _, rfl, ?_⟩⟩
    have s1 := same_new hT0 (.tup [V.ty "int", V.ty "str"])
    generalize upd H T (.tup [V.ty "int", V.ty "str"]) = H1 at s1 ⊢
    rcases hb with rfl | ⟨k', rfl, hk⟩
    · exact ⟨_, rfl, rfl, _, rfl, iteDT rfl (q H1 s1)⟩
    refine ⟨_, rfl, rfl, _, rfl, iteDF (by cases k' <;> exact fun e => nomatch e) ?_⟩
    cases key with
    | inl i =>
      refine ⟨_, rfl, _, _, _, _, false, rfl, .ty _, .base (.int _), kit_ty (by decide +kernel), _, rfl, ?_⟩
      refine ⟨_, rfl, _, _, _, _, false, rfl, .ty _, .base (.int _), kit_ty (by decide +kernel), ?_⟩
      cases k' with
      | inl j =>
        refine ⟨_, rfl, _, _, _, _, false, rfl, .ty _, .base (.int _), kit_ty (by decide +kernel), rfl, _, rfl, iteDT rfl ?_⟩
        refine ⟨_, rfl, _, rfl, .inl ⟨_, _, rfl, rfl, ?_⟩⟩
        have e : decide (j < i) = true := hk
        show Q (.bl (decide (j < i))) H1
        rw [e]; exact q H1 s1
      | inr y => exact absurd hk (fun e => nomatch (show false = true from e))
    | inr x =>
      refine ⟨_, rfl, _, _, _, _, true, rfl, .ty _, .base (.str _), kit_ty (by decide +kernel), _, rfl, ?_⟩
      cases k' with
      | inl j =>
        refine ⟨_, rfl, _, _, _, _, true, rfl, .ty _, .base (.int _), kit_ty (by decide +kernel), _, rfl, ?_⟩
        exact q H1 s1
      | inr y =>
        refine ⟨_, rfl, _, _, _, _, false, rfl, .ty _, .base (.str _), kit_ty (by decide +kernel), _, rfl, ?_⟩
        refine ⟨_, rfl, _, _, _, _, true, rfl, .ty _, .base (.str _), kit_ty (by decide +kernel), ?_⟩
        refine ⟨_, rfl, _, _, _, _, true, rfl, .ty _, .base (.str _), kit_ty (by decide +kernel), rfl, _, rfl, iteDT rfl ?_⟩
        refine ⟨_, rfl, _, rfl, .inr ⟨_, _, rfl, rfl, ?_⟩⟩
        have e : decide (tl y < tl x) = true := hk
        have e' : decide (y.cps.toList < x.cps.toList) = true := e
        show Q (.bl (decide (y.cps.toList < x.cps.toList))) H1
        rw [e']; exact q H1 s1)

theorem no_ritems {f : Addr} {fd : FuncData} : FnOk P w K mg base CX0 4 f fd ["numbers", "at"] (spRItems 0) := ⟨fun vs H Q E h => h.elim, fun A outer s H args us vs Q E _ _ _ _ h => h.elim⟩
theorem no_rdict {f : Addr} {fd : FuncData} : FnOk P w K mg base CX0 4 f fd ["numbers", "at"] (spRDict 0) := ⟨fun vs H Q E h => h.elim, fun A outer s H args us vs Q E _ _ _ _ h => h.elim⟩
theorem ok_read_items {n : Nat} {f g gn : Addr} {fd gd gnd : FuncData} (k : Kn K mg "read_items" s_read_items ["numbers", "at"] f fd) (z : Z mg)
    (c_read_number : Cal P w K mg base 2 "read_number" ["numbers", "at", "many"] spRNum gn gnd)
    (c_read_data : Cal P w K mg base (2 * n + 5) "read_data" ["numbers", "at"] (spRead (n + 1)) g gd) : Cal P w K mg base (2 * n + 6) "read_items" ["numbers", "at"] (spRItems (n + 1)) f fd := k.cal (by
  obtain ⟨t_LENGTH_BYTES, k_LENGTH_BYTES⟩ := z.c_LENGTH_BYTES
  refine k.F.ok sc_read_items (fun vs H Q E h => ?_) (fun cdv A outer s H vs Q E hr h => ?_)
  · obtain ⟨B, bs, a, f0, gs, rfl, _⟩ := h; rfl
  · obtain ⟨B, bs, a, f0, gs, rfl, hB, hl, okg, l4, n4, hat, q⟩ := h
    have hu := hu_of hr
    refine ⟨_, (pss_cons (ps_set (i := 2) sc_read_items.nd rfl (Or.inl rfl) (pe_call c_read_number.G (hr.mono (by omega)) (by rfl) c_read_number.m c_read_number.kp c_read_number.b .nil pass0 (pa_cons (pv 0) (pa_cons (pe_op op_add (pv 1) pe_int) (pa_cons (pe_glob (v := .int (2)) rfl k_LENGTH_BYTES ⟨_, rfl⟩) pa_nil)))))
    (pss_cons (ps_set (i := 3) sc_read_items.nd rfl (Or.inl rfl) (pe_op op_add (pe_op op_add (pv 1) pe_int) (pe_glob (v := .int (2)) rfl k_LENGTH_BYTES ⟨_, rfl⟩)))
    (pss_cons (ps_set (i := 4) sc_read_items.nd rfl (Or.inl rfl) (pe_lst pa_nil))
    (pss_cons (ps_for PassesOwn.never rfl (pi_range1 (by rfl) z.range (pa_cons (pv 2) pa_nil)) (pg_name (i := 5) sc_read_items.nd rfl (Or.inl rfl))
    (pss_cons (ps_asg (pe_call c_read_data.G (hr.mono (by omega)) (by rfl) c_read_data.m c_read_data.kp c_read_data.b .nil pass0 (pa_cons (pv 0) (pa_cons (pv 3) pa_nil))) (pg_tup (by rfl) (pgs_cons (pg_name (i := 6) sc_read_items.nd rfl (Or.inl rfl)) (pgs_cons (pg_name (i := 3) sc_read_items.nd rfl (Or.inl rfl)) pgs_nil))))
    (pss_one (ps_expr (pe_bm PySem.F.plainAttrs_list PySem.F.slot_list_append PySem.F.type_list_append mt_append (pv 4) (pa_cons (pv 6) pa_nil))))))
    (pss_one (ps_ret (pe_tup (pa_cons (pv 4) (pa_cons (pv 3) pa_nil))))))))), ?_⟩
    obtain ⟨l1, e1⟩ := nb4 (k := 2) hat (by omega) (by decide)
    have hat' : At bs a ((f0 :: nb gs.length 2) ++ packL gs) := hat
    refine ⟨_, rfl, _, rfl, _, _, rfl, rfl, B, bs, a + 1, 2, rfl, hB, hl, l1, by decide, fun H1 s1 => ?_⟩
    rw [e1]
    refine ⟨_, rfl, _, _, rfl, rfl, _, _, rfl, rfl, ?_⟩
    refine ⟨Nat.zero_le _, fun L hL => ?_⟩
    have L0 : H L = none := s1.free hL
    refine ⟨_, rfl, gs.length, rfl, by omega, by omega, for_range (lo := 0) (n := gs.length) (fun i σ H' => ∃ v5 v6 xs D, σ = [some (.ref B), some (.int a), some (.int (gs.length : Nat)), some (.int (a + (3 + (packL (gs.take i)).length) : Nat)), some (.ref L), v5, v6] ∧ H' L = some (.lst xs) ∧ GpL H' xs (normL (gs.take i)) D ∧ (∀ b ∈ D, H b = none) ∧ L ∉ D ∧ Same H H') ⟨none, none, [], [], ?_, upd_same, .nil, (fun b hb => by cases hb), (fun hb => by cases hb), s1.trans (same_new hL _)⟩ ?_ ?_⟩
    · have : ((a : Int) + 1 + 2) = ((a + (3 + (packL (gs.take 0)).length) : Nat) : Int) := by rw [List.take_zero, packL]; simp only [List.length_nil]; omega
      rw [← this]; rfl
    · rintro i σ H3 hi ⟨v5, v6, xs, D, rfl, h3, r, fr, nL, s3⟩
      have eg : gs[i]? = some gs[i] := List.getElem?_eq_getElem hi
      generalize gs[i] = g1 at eg
      have okg1 := okg g1 (List.mem_of_getElem? eg)
      have hatg : At bs (a + (3 + (packL (gs.take i)).length)) (packM g1) := by
        have h := hat'
        rw [packL_at eg, ← List.append_assoc] at h
        have h2 := At.part h
        rw [List.length_append, List.length_cons, nb_len] at h2
        exact h2
      refine ⟨_, rfl, _, rfl, B, bs, _, g1, rfl, s3 _ _ hB, hl, okg1, by omega, hatg, fun v D2 H4 T hg fr2 hT s4 => ?_⟩
      have h4 := s4 _ _ h3
      have D2L : ∀ b ∈ D2, b ≠ L := fun b hb z => by have := fr2 b hb; rw [z, h3] at this; cases this
      have ku : KeepT H4 (upd H4 L (.lst (xs ++ [v]))) := KeepT.upd fun zs z => by rw [h4] at z; cases z
      have lx : xs.length = i := by have := r.length; rw [normL_map, List.length_map, List.length_take] at this; omega
      refine ⟨T, _, rfl, SqT.of hT, rfl, _, _, rfl, _, _, rfl, rfl, ?_⟩
      refine ⟨_, rfl, .inl ⟨rfl, _, SqL.of h4⟩, _, rfl, L, _, _, rfl, rfl, h4, (by rw [lx]; exact small1000 (by omega)), ?_⟩
      refine ⟨some (.int (0 + i)), some v, xs ++ [v], D ++ D2, ?_, upd_same, ?_, ?_, ?_, same_upd L0 _ (s3.trans s4)⟩
      · have : (((a + (3 + (packL (gs.take i)).length) + (packM g1).length : Nat)) : Int) = ((a + (3 + (packL (gs.take (i + 1))).length) : Nat) : Int) := by rw [packL_take eg, List.length_append]; omega
        rw [← this]; rfl
      · have en : normL (gs.take (i + 1)) = normL (gs.take i) ++ [normG g1] := by rw [normL_map, normL_map, List.take_add_one, eg, List.map_append]; rfl
        rw [en]
        exact GpL.snoc ((r.mono s4).frame ku fun b hb o e => by rw [upd_ne (fun z => nL (by rw [← z]; exact hb))]; exact e) (hg.frame ku fun b hb o e => by rw [upd_ne (D2L b hb)]; exact e)
      · intro b hb
        rcases List.mem_append.mp hb with h | h
        · exact fr b h
        · exact s3.free (fr2 b h)
      · intro hb
        rcases List.mem_append.mp hb with h | h
        · exact nL h
        · exact D2L L h rfl
    · rintro σ H3 ⟨v5, v6, xs, D, rfl, h3, r, fr, nL, s3⟩
      rw [List.take_length] at r ⊢
      refine ⟨_, rfl, _, rfl, (by show 2 ≤ sizeLine; decide), fun T hT => ?_⟩
      have s4 := same_new hT (.tup [V.ref L, V.int (a + (3 + (packL gs).length) : Nat)])
      exact q L xs D _ T (s4 _ _ h3) (r.mono s4) fr nL L0 upd_same (s3.trans s4))
theorem ok_read_dict {n : Nat} {f g gn gm : Addr} {fd gd gnd gmd : FuncData} (k : Kn K mg "read_dict" s_read_dict ["numbers", "at"] f fd) (z : Z mg)
    (c_read_number : Cal P w K mg base 2 "read_number" ["numbers", "at", "many"] spRNum gn gnd)
    (c_may_follow : Cal P w K mg base 1 "may_follow" ["key", "before"] spFollow gm gmd)
    (c_read_data : Cal P w K mg base (2 * n + 5) "read_data" ["numbers", "at"] (spRead (n + 1)) g gd) : Cal P w K mg base (2 * n + 6) "read_dict" ["numbers", "at"] (spRDict (n + 1)) f fd := k.cal (by
  obtain ⟨t_LENGTH_BYTES, k_LENGTH_BYTES⟩ := z.c_LENGTH_BYTES
  refine k.F.ok sc_read_dict (fun vs H Q E h => ?_) (fun cdv A outer s H vs Q E hr h => ?_)
  · obtain ⟨B, bs, a, ks, rfl, _⟩ := h; rfl
  · obtain ⟨B, bs, a, ks, rfl, hB, hl, ok, n4, hat, q⟩ := h
    have hu := hu_of hr
    refine ⟨_, (pss_cons (ps_set (i := 2) sc_read_dict.nd rfl (Or.inl rfl) (pe_call c_read_number.G (hr.mono (by omega)) (by rfl) c_read_number.m c_read_number.kp c_read_number.b .nil pass0 (pa_cons (pv 0) (pa_cons (pe_op op_add (pv 1) pe_int) (pa_cons (pe_glob (v := .int (2)) rfl k_LENGTH_BYTES ⟨_, rfl⟩) pa_nil)))))
    (pss_cons (ps_set (i := 3) sc_read_dict.nd rfl (Or.inl rfl) (pe_op op_add (pe_op op_add (pv 1) pe_int) (pe_glob (v := .int (2)) rfl k_LENGTH_BYTES ⟨_, rfl⟩)))
    (pss_cons (ps_set (i := 4) sc_read_dict.nd rfl (Or.inl rfl) pe_dnewK)
    (pss_cons (ps_set (i := 5) sc_read_dict.nd rfl (Or.inl rfl) pe_non)
    (pss_cons (ps_for PassesOwn.never rfl (pi_range1 (by rfl) z.range (pa_cons (pv 2) pa_nil)) (pg_name (i := 6) sc_read_dict.nd rfl (Or.inl rfl))
    (pss_cons (ps_set (i := 7) sc_read_dict.nd rfl (Or.inl rfl) (pv 3))
    (pss_cons (ps_asg (pe_call c_read_data.G (hr.mono (by omega)) (by rfl) c_read_data.m c_read_data.kp c_read_data.b .nil pass0 (pa_cons (pv 0) (pa_cons (pv 7) pa_nil))) (pg_tup (by rfl) (pgs_cons (pg_name (i := 8) sc_read_dict.nd rfl (Or.inl rfl)) (pgs_cons (pg_name (i := 3) sc_read_dict.nd rfl (Or.inl rfl)) pgs_nil))))
    (pss_cons (ps_if (pt_not (pt_val (pe_call c_may_follow.G (hr.mono (by omega)) (by rfl) c_may_follow.m c_may_follow.kp c_may_follow.b .nil pass0 (pa_cons (pv 8) (pa_cons (pv 5) pa_nil))))) (pss_one ps_no0) pss_nil)
    (pss_cons (ps_asg (pe_call c_read_data.G (hr.mono (by omega)) (by rfl) c_read_data.m c_read_data.kp c_read_data.b .nil pass0 (pa_cons (pv 0) (pa_cons (pv 3) pa_nil))) (pg_tup (by rfl) (pgs_cons (pg_name (i := 9) sc_read_dict.nd rfl (Or.inl rfl)) (pgs_cons (pg_name (i := 3) sc_read_dict.nd rfl (Or.inl rfl)) pgs_nil))))
    (pss_cons (ps_dput hu (pv 4) (pv 8) (pv 9) rfl)
    (pss_one (ps_set (i := 5) sc_read_dict.nd rfl (Or.inl rfl) (pv 8)))))))))
    (pss_one (ps_ret (pe_tup (pa_cons (pv 4) (pa_cons (pv 3) pa_nil)))))))))), ?_⟩
    cases ok with
    | d l4 nd okk okg =>
    rw [packM_dD] at hat
    rw [normG_dE, packM_dD] at q
    have lsk : (sortK (ks.map (·.1))).length = ks.length := by rw [sortK_len, List.length_map]
    have snd := sortK_nd nd
    have smem : ∀ k, k ∈ sortK (ks.map (·.1)) → k ∈ ks.map (·.1) := fun k h => sortK_mem.mp h
    have kl := fun {i : Nat} {x y : Key} => kLt_of (ks := ks.map (·.1)) nd (i := i) (a := x) (b := y)
    obtain ⟨l1, e1⟩ := nb4 (k := 2) hat (by omega) (by decide)
    generalize sortK (ks.map (·.1)) = ss at hat q lsk snd smem kl
    have hat' : At bs a (((8 : Int) :: nb ks.length 2) ++ ss.flatMap (entD ks)) := hat
    refine ⟨_, rfl, _, rfl, _, _, rfl, rfl, B, bs, a + 1, 2, rfl, hB, hl, l1, by decide, fun H1 s1 => ?_⟩
    rw [e1]
    refine ⟨_, rfl, _, _, rfl, rfl, _, _, rfl, rfl, ?_⟩
    refine fun N hN => ?_
    have N0 : H N = none := s1.free hN
    refine ⟨_, rfl, ks.length, rfl, by omega, by omega, for_range (lo := 0) (n := ks.length) (fun i σ H' => ∃ bf v6 v7 v8 v9 kvs D, σ = [some (.ref B), some (.int a), some (.int (ks.length : Nat)), some (.int (a + (3 + ((ss.take i).flatMap (entD ks)).length) : Nat)), some (.ref N), some bf, v6, v7, v8, v9] ∧ (i = 0 ∧ bf = .non ∨ ∃ j k, i = j + 1 ∧ ss[j]? = some k ∧ bf = kV k) ∧ H' N = some (.dK kvs) ∧ GpK H' kvs ((ss.take i).map (nrmE ks)) D ∧ (∀ b ∈ D, H b = none) ∧ N ∉ D ∧ Same H H') ⟨_, none, none, none, none, [], [], ?_, .inl ⟨rfl, rfl⟩, upd_same, .nil, (fun b hb => by cases hb), (fun hb => by cases hb), s1.trans (same_new hN _)⟩ ?_ ?_⟩
    · have : ((a : Int) + 1 + 2) = ((a + (3 + ((ss.take 0).flatMap (entD ks)).length) : Nat) : Int) := by rw [List.take_zero, List.flatMap_nil]; simp only [List.length_nil]; omega
      rw [← this]; rfl
    · rintro i σ H3 hi ⟨bf, v6, v7, v8, v9, kvs, D, rfl, hbf, h3, r, fr, nN, s3⟩
      have eg : ss[i]? = some (ss[i]'(by omega)) := List.getElem?_eq_getElem (by omega)
      generalize ss[i]'(by omega) = key at eg
      have hm := lkG_in (smem key (List.mem_of_getElem? eg))
      have ok1 : okS (kV key) := okk _ hm
      have ok2 : DOk n (lkG ks key) := okg _ hm
      have hat2 := hat'
      rw [ent_at eg, ← List.append_assoc] at hat2
      have hatk : At bs (a + (3 + ((ss.take i).flatMap (entD ks)).length)) (packM (.s (kV key))) := by
        have h2 := At.part hat2
        rw [List.length_append, List.length_cons, nb_len] at h2
        rw [packM]
        exact h2
      have hatg : At bs (a + (3 + ((ss.take i).flatMap (entD ks)).length) + (packM (.s (kV key))).length) (packM (lkG ks key)) := by
        rw [← List.append_assoc] at hat2
        have h2 := At.part hat2
        rw [List.length_append, List.length_append, List.length_cons, nb_len] at h2
        rw [packM, Nat.add_assoc]
        exact h2
      refine ⟨_, rfl, _, rfl, _, rfl, B, bs, _, .s (kV key), rfl, s3 _ _ hB, hl, .s ok1, by omega, hatk, fun v D1 H4 T hg1 fr1 hT s4 => ?_⟩
      obtain ⟨rfl, rfl⟩ := norm_s hg1
      refine ⟨T, _, rfl, SqT.of hT, rfl, _, _, rfl, _, _, rfl, rfl, ?_⟩
      refine ⟨_, rfl, _, rfl, key, bf, rfl, ?_, fun H5 s5 => ?_⟩
      · rcases hbf with ⟨_, h⟩ | ⟨j, k0, hj, h1, h2⟩
        · exact .inl h
        · exact .inr ⟨k0, h2, kl h1 (by rw [← hj]; exact eg)⟩
      refine ⟨_, rfl, iteF ?_⟩
      have s35 := s4.trans s5
      refine ⟨_, rfl, _, rfl, B, bs, _, lkG ks key, rfl, s35 _ _ (s3 _ _ hB), hl, ok2, by omega, hatg, fun v D2 H6 T2 hg2 fr2 hT2 s6 => ?_⟩
      have s36 := s35.trans s6
      have h6 := s36 _ _ h3
      have D2N : ∀ b ∈ D2, b ≠ N := fun b hb z => by have := fr2 b hb; rw [z, s35 _ _ h3] at this; cases this
      have ekk : kvs.map (·.1) = ss.take i := by rw [r.keys, nrmE_keys]
      have lkv : kvs.length = i := by have := congrArg List.length ekk; rw [List.length_map, List.length_take] at this; omega
      have ku : KeepT H6 (upd H6 N (.dK (putK kvs key v))) := KeepT.upd fun zs z => by rw [h6] at z; cases z
      have r7 := (r.mono s36).frame ku fun b hb o e => by rw [upd_ne (fun z => nN (by rw [← z]; exact hb))]; exact e
      have g7 : Gp (upd H6 N (.dK (putK kvs key v))) v (normG (lkG ks key)) D2 := hg2.frame ku fun b hb o e => by rw [upd_ne (D2N b hb)]; exact e
      obtain ⟨D', r8, hD⟩ := r7.put (k := key) g7
      rw [putG_new (by rw [nrmE_keys]; exact nd_take snd eg)] at r8
      refine ⟨T2, _, rfl, SqT.of hT2, rfl, _, _, rfl, _, _, rfl, rfl, ?_⟩
      refine ⟨_, rfl, _, rfl, _, rfl, N, _, rfl, DPut.k (k := key) h6 (small1000 (by omega)), ?_⟩
      refine ⟨_, rfl, kV key, some (.int (0 + i)), some (.int (a + (3 + ((ss.take i).flatMap (entD ks)).length) : Nat)), some (kV key), some v, putK kvs key v, D', ?_, .inr ⟨i, key, rfl, eg, rfl⟩, upd_same, ?_, ?_, ?_, same_upd N0 _ (s3.trans s36)⟩
      · have : (((a + (3 + ((ss.take i).flatMap (entD ks)).length) + (packM (.s (kV key))).length + (packM (lkG ks key)).length : Nat)) : Int) = ((a + (3 + ((ss.take (i + 1)).flatMap (entD ks)).length) : Nat) : Int) := by
          rw [ent_take eg, List.length_append, entD, List.length_append, packM]; omega
        rw [← this]; rfl
      · have en : (ss.take (i + 1)).map (nrmE ks) = (ss.take i).map (nrmE ks) ++ [(key, normG (lkG ks key))] := by rw [List.take_add_one, eg, List.map_append]; rfl
        rw [en]
        exact r8
      · intro b hb
        rcases hD b hb with h | h
        · exact fr b h
        · exact (s3.trans s35).free (fr2 b h)
      · intro hb
        rcases hD N hb with h | h
        · exact nN h
        · exact D2N N h rfl
    · rintro σ H3 ⟨bf, v6, v7, v8, v9, kvs, D, rfl, hbf, h3, r, fr, nN, s3⟩
      have et : ss.take ks.length = ss := List.take_of_length_le (by omega)
      rw [et] at r ⊢
      have ekk : kvs.map (·.1) = ss := by rw [r.keys, nrmE_keys]
      have lkv : kvs.length = ks.length := by have := congrArg List.length ekk; rw [List.length_map] at this; omega
      refine ⟨_, rfl, _, rfl, (by show 2 ≤ sizeLine; decide), fun T hT => ?_⟩
      have s4 := same_new hT (.tup [V.ref N, V.int (a + (3 + (ss.flatMap (entD ks)).length) : Nat)])
      refine q (.ref N) (N :: D) _ T (.d (s4 _ _ h3) (by omega) (by rw [ekk]; exact snd) (r.mono s4) nN) (fun b hb => ?_) ?_ (s3.trans s4)
      · rcases List.mem_cons.mp hb with rfl | hb
        · exact N0
        · exact fr b hb
      · have : (a + ((8 : Int) :: (nb ks.length 2 ++ ss.flatMap (entD ks))).length : Nat) = a + (3 + (ss.flatMap (entD ks)).length) := by rw [List.length_cons, List.length_append, nb_len]; omega
        rw [this]; exact upd_same)
theorem ok_read_data {n : Nat} {f gi gd gm gt gg : Addr} {fd gid gdd gmd gtd ggd : FuncData} (k : Kn K mg "read_data" s_read_data ["numbers", "at"] f fd) (z : Z mg)
    (c_read_number : Cal P w K mg base 2 "read_number" ["numbers", "at", "many"] spRNum gm gmd)
    (c_read_negative : Cal P w K mg base 3 "read_negative" ["numbers", "at"] spRNeg gg ggd)
    (c_read_text : Cal P w K mg base 3 "read_text" ["numbers", "at"] spRTxt gt gtd)
    (c_read_items : Cal P w K mg base (2 * n + 4) "read_items" ["numbers", "at"] (spRItems n) gi gid)
    (c_read_dict : Cal P w K mg base (2 * n + 4) "read_dict" ["numbers", "at"] (spRDict n) gd gdd) : Cal P w K mg base (2 * n + 5) "read_data" ["numbers", "at"] (spRead (n + 1)) f fd := k.cal (by
  obtain ⟨t_DICT, k_DICT⟩ := z.c_DICT
  obtain ⟨t_NULL, k_NULL⟩ := z.c_NULL
  obtain ⟨t_TRUE, k_TRUE⟩ := z.c_TRUE
  obtain ⟨t_FALSE, k_FALSE⟩ := z.c_FALSE
  obtain ⟨t_NUMBER, k_NUMBER⟩ := z.c_NUMBER
  obtain ⟨t_NUMBER_BYTES, k_NUMBER_BYTES⟩ := z.c_NUMBER_BYTES
  obtain ⟨t_NEGATIVE, k_NEGATIVE⟩ := z.c_NEGATIVE
  obtain ⟨t_TEXT, k_TEXT⟩ := z.c_TEXT
  obtain ⟨t_TUPLE, k_TUPLE⟩ := z.c_TUPLE
  refine k.F.ok sc_read_data (fun vs H Q E h => ?_) (fun cdv A outer s H vs Q E hr h => ?_)
  · obtain ⟨B, bs, a, g, rfl, _⟩ := h; rfl
  · obtain ⟨B, bs, a, g, rfl, hB, hl, ok, n4, hat, q⟩ := h
    have hu := hu_of hr
    refine ⟨_, (pss_cons (ps_if (pt_cmpR op_ge (pv 1) (pe_callB call_len_seq (by rfl) z.len (by decide +kernel) (pa_cons (pv 0) pa_nil)) (nomark _)) (pss_one ps_no0) pss_nil)
    (pss_cons (ps_set (i := 2) sc_read_data.nd rfl (Or.inl rfl) (pe_ix ix_list (pv 0) (pv 1) (fun _ _ => rfl)))
    (pss_cons (ps_if (pt_cmpR op_gt (pv 2) (pe_glob (v := .int (8)) rfl k_DICT ⟨_, rfl⟩) (nomark _)) (pss_one ps_no0) pss_nil)
    (pss_cons (ps_if (pt_cmpR op_eq (pv 2) (pe_glob (v := .int (0)) rfl k_NULL ⟨_, rfl⟩) (nomark _)) (pss_one (ps_ret (pe_tup (pa_cons pe_non (pa_cons (pe_op op_add (pv 1) pe_int) pa_nil))))) pss_nil)
    (pss_cons (ps_if (PW.pt (pw_or (pt_cmpR op_eq (pv 2) (pe_glob (v := .int (1)) rfl k_FALSE ⟨_, rfl⟩) (nomark _)) (pw_or1 (pt_cmpR op_eq (pv 2) (pe_glob (v := .int (2)) rfl k_TRUE ⟨_, rfl⟩) (nomark _))))) (pss_one (ps_ret (pe_tup (pa_cons (pe_cmpR op_eq (pv 2) (pe_glob (v := .int (2)) rfl k_TRUE ⟨_, rfl⟩) (nomark _)) (pa_cons (pe_op op_add (pv 1) pe_int) pa_nil))))) pss_nil)
    (pss_cons (ps_if (pt_cmpR op_eq (pv 2) (pe_glob (v := .int (3)) rfl k_NUMBER ⟨_, rfl⟩) (nomark _)) (pss_one (ps_ret (pe_tup (pa_cons (pe_call c_read_number.G (hr.mono (by omega)) (by rfl) c_read_number.m c_read_number.kp c_read_number.b .nil pass0 (pa_cons (pv 0) (pa_cons (pe_op op_add (pv 1) pe_int) (pa_cons (pe_glob (v := .int (4)) rfl k_NUMBER_BYTES ⟨_, rfl⟩) pa_nil)))) (pa_cons (pe_op op_add (pe_op op_add (pv 1) pe_int) (pe_glob (v := .int (4)) rfl k_NUMBER_BYTES ⟨_, rfl⟩)) pa_nil))))) pss_nil)
    (pss_cons (ps_if (pt_cmpR op_eq (pv 2) (pe_glob (v := .int (4)) rfl k_NEGATIVE ⟨_, rfl⟩) (nomark _)) (pss_one (ps_ret (pe_tup (pa_cons (pe_call c_read_negative.G (hr.mono (by omega)) (by rfl) c_read_negative.m c_read_negative.kp c_read_negative.b .nil pass0 (pa_cons (pv 0) (pa_cons (pv 1) pa_nil))) (pa_cons (pe_op op_add (pe_op op_add (pv 1) pe_int) (pe_glob (v := .int (4)) rfl k_NUMBER_BYTES ⟨_, rfl⟩)) pa_nil))))) pss_nil)
    (pss_cons (ps_if (pt_cmpR op_eq (pv 2) (pe_glob (v := .int (5)) rfl k_TEXT ⟨_, rfl⟩) (nomark _)) (pss_one (ps_ret (pe_call c_read_text.G (hr.mono (by omega)) (by rfl) c_read_text.m c_read_text.kp c_read_text.b .nil pass0 (pa_cons (pv 0) (pa_cons (pv 1) pa_nil))))) pss_nil)
    (pss_cons (ps_if (pt_cmpR op_eq (pv 2) (pe_glob (v := .int (8)) rfl k_DICT ⟨_, rfl⟩) (nomark _)) (pss_one (ps_ret (pe_call c_read_dict.G (hr.mono (by omega)) (by rfl) c_read_dict.m c_read_dict.kp c_read_dict.b .nil pass0 (pa_cons (pv 0) (pa_cons (pv 1) pa_nil))))) pss_nil)
    (pss_cons (ps_asg (pe_call c_read_items.G (hr.mono (by omega)) (by rfl) c_read_items.m c_read_items.kp c_read_items.b .nil pass0 (pa_cons (pv 0) (pa_cons (pv 1) pa_nil))) (pg_tup (by rfl) (pgs_cons (pg_name (i := 3) sc_read_data.nd rfl (Or.inl rfl)) (pgs_cons (pg_name (i := 4) sc_read_data.nd rfl (Or.inl rfl)) pgs_nil))))
    (pss_cons (ps_if (pt_cmpR op_eq (pv 2) (pe_glob (v := .int (6)) rfl k_TUPLE ⟨_, rfl⟩) (nomark _)) (pss_one (ps_ret (pe_tup (pa_cons (pe_callTy call_tuple_of (by rfl) z.tuple (by decide +kernel) (pa_cons (pv 3) pa_nil)) (pa_cons (pv 4) pa_nil))))) pss_nil)
    (pss_one (ps_ret (pe_tup (pa_cons (pv 3) (pa_cons (pv 4) pa_nil)))))))))))))))), ?_⟩
    have hne : packM g ≠ [] := pack_ne ok
    have hlen := hat.len hne
    have lpos : 0 < (packM g).length := List.length_pos_iff.mpr hne
    refine ⟨_, rfl, _, rfl, B, _, rfl, .inl (SqL.of hB), _, _, rfl, rfl, _, rfl, iteDF (by rw [List.length_map]; omega) ?_⟩
    have first : ∀ {x : Int} {ps : List Int}, packM g = x :: ps → atI (bs.map V.int) (a : Nat) = some (.int x) := fun {x ps} e => by
      have h := hat
      rw [e] at h
      exact atI_nat (by rw [List.getElem?_map, h.head.1]; rfl)
    have e14 : ((a : Int) + 1) = ((a + 1 : Nat) : Int) := by omega
    have e54 : ((a : Int) + 1 + 4) = ((a + 5 : Nat) : Int) := by omega
    cases ok with
    | @s _ v okv =>
      have qs : ∀ (e : Nat) (H' : Hp) (T : Addr), e = a + (packS v).length → H' T = some (.tup [v, .int (e : Nat)]) → Same H H' → Q (.ref T) H' := fun e H' T he hT s => by
        subst he
        have := q v [] H' T (by rw [normG]; exact .s okv.scal) (fun b hb => by cases hb)
        rw [packM] at this
        exact this hT s
      rw [packM] at hat first
      cases v with
      | non =>
        refine ⟨_, rfl, _, rfl, B, _, _, _, rfl, rfl, SqL.of hB, first rfl, ?_⟩
        refine ⟨_, rfl, _, _, rfl, rfl, _, rfl, iteDF (by decide) ?_⟩
        refine ⟨_, rfl, rfl, _, rfl, iteDT rfl ?_⟩
        refine ⟨_, rfl, _, _, rfl, rfl, (by show 2 ≤ sizeLine; decide), fun T hT => ?_⟩
        refine qs (a + 1) _ T rfl ?_ (same_new hT _)
        rw [← e14]; exact upd_same
      | bl b =>
        cases b with
        | false =>
          refine ⟨_, rfl, _, rfl, B, _, _, _, rfl, rfl, SqL.of hB, first rfl, ?_⟩
          refine ⟨_, rfl, _, _, rfl, rfl, _, rfl, iteDF (by decide) ?_⟩
          refine ⟨_, rfl, rfl, _, rfl, iteDF (fun e => absurd (V.int.inj e) (by decide)) ?_⟩
          refine ⟨_, rfl, rfl, _, rfl, iteDT rfl ?_⟩
          refine ⟨_, rfl, rfl, _, rfl, _, _, rfl, rfl, (by show 2 ≤ sizeLine; decide), fun T hT => ?_⟩
          refine qs (a + 1) _ T rfl ?_ (same_new hT _)
          rw [← e14]; exact upd_same
        | true =>
          refine ⟨_, rfl, _, rfl, B, _, _, _, rfl, rfl, SqL.of hB, first rfl, ?_⟩
          refine ⟨_, rfl, _, _, rfl, rfl, _, rfl, iteDF (by decide) ?_⟩
          refine ⟨_, rfl, rfl, _, rfl, iteDF (fun e => absurd (V.int.inj e) (by decide)) ?_⟩
          refine ⟨_, rfl, rfl, _, rfl, iteDF (fun e => absurd (V.int.inj e) (by decide)) ?_⟩
          refine ⟨_, rfl, rfl, _, rfl, iteDT rfl ?_⟩
          refine ⟨_, rfl, rfl, _, rfl, _, _, rfl, rfl, (by show 2 ≤ sizeLine; decide), fun T hT => ?_⟩
          refine qs (a + 1) _ T rfl ?_ (same_new hT _)
          rw [← e14]; exact upd_same
      | int i =>
        have ok' : -4294967295 ≤ i ∧ i ≤ 4294967295 := okv
        by_cases hi : i < 0
        · have ep : packS (.int i) = 4 :: nb (-i).toNat 4 := if_pos hi
          rw [ep] at hat first
          refine ⟨_, rfl, _, rfl, B, _, _, _, rfl, rfl, SqL.of hB, first rfl, ?_⟩
          refine ⟨_, rfl, _, _, rfl, rfl, _, rfl, iteDF (by decide) ?_⟩
          refine ⟨_, rfl, rfl, _, rfl, iteDF (fun e => absurd (V.int.inj e) (by decide)) ?_⟩
          refine ⟨_, rfl, rfl, _, rfl, iteDF (fun e => absurd (V.int.inj e) (by decide)) ?_⟩
          refine ⟨_, rfl, rfl, _, rfl, iteDF (fun e => absurd (V.int.inj e) (by decide)) ?_⟩
          refine ⟨_, rfl, rfl, _, rfl, iteDF (fun e => absurd (V.int.inj e) (by decide)) ?_⟩
          refine ⟨_, rfl, rfl, _, rfl, iteDT rfl ?_⟩
          refine ⟨_, rfl, _, rfl, B, bs, a, (-i).toNat, rfl, hB, hl, hat, by omega, by omega, fun H1 s1 => ?_⟩
          refine ⟨_, rfl, _, _, rfl, rfl, _, _, rfl, rfl, (by show 2 ≤ sizeLine; decide), fun T hT => ?_⟩
          refine qs (a + 5) _ T (by rw [ep, List.length_cons, nb_len]) ?_ (s1.trans (same_new hT _))
          have : -(((-i).toNat : Nat) : Int) = i := by omega
          rw [← e54, upd_same, this]
        · have ep : packS (.int i) = 3 :: nb i.toNat 4 := if_neg hi
          rw [ep] at hat first
          obtain ⟨l1, e1⟩ := nb4 (k := 4) (rest := []) (by rw [List.append_nil]; exact hat) (by omega) (by decide)
          refine ⟨_, rfl, _, rfl, B, _, _, _, rfl, rfl, SqL.of hB, first rfl, ?_⟩
          refine ⟨_, rfl, _, _, rfl, rfl, _, rfl, iteDF (by decide) ?_⟩
          refine ⟨_, rfl, rfl, _, rfl, iteDF (fun e => absurd (V.int.inj e) (by decide)) ?_⟩
          refine ⟨_, rfl, rfl, _, rfl, iteDF (fun e => absurd (V.int.inj e) (by decide)) ?_⟩
          refine ⟨_, rfl, rfl, _, rfl, iteDF (fun e => absurd (V.int.inj e) (by decide)) ?_⟩
          refine ⟨_, rfl, rfl, _, rfl, iteDT rfl ?_⟩
          refine ⟨_, rfl, _, rfl, _, _, rfl, rfl, B, bs, a + 1, 4, rfl, hB, hl, l1, by decide, fun H1 s1 => ?_⟩
          rw [e1]
          refine ⟨_, rfl, _, _, rfl, rfl, _, _, rfl, rfl, (by show 2 ≤ sizeLine; decide), fun T hT => ?_⟩
          refine qs (a + 5) _ T (by rw [ep, List.length_cons, nb_len]) ?_ (s1.trans (same_new hT _))
          have : ((i.toNat : Nat) : Int) = i := by omega
          rw [← e54, upd_same, this]
      | str y =>
        refine ⟨_, rfl, _, rfl, B, _, _, _, rfl, rfl, SqL.of hB, first rfl, ?_⟩
        refine ⟨_, rfl, _, _, rfl, rfl, _, rfl, iteDF (by decide) ?_⟩
        refine ⟨_, rfl, rfl, _, rfl, iteDF (fun e => absurd (V.int.inj e) (by decide)) ?_⟩
        refine ⟨_, rfl, rfl, _, rfl, iteDF (fun e => absurd (V.int.inj e) (by decide)) ?_⟩
        refine ⟨_, rfl, rfl, _, rfl, iteDF (fun e => absurd (V.int.inj e) (by decide)) ?_⟩
        refine ⟨_, rfl, rfl, _, rfl, iteDF (fun e => absurd (V.int.inj e) (by decide)) ?_⟩
        refine ⟨_, rfl, rfl, _, rfl, iteDF (fun e => absurd (V.int.inj e) (by decide)) ?_⟩
        refine ⟨_, rfl, rfl, _, rfl, iteDT rfl ?_⟩
        exact ⟨_, rfl, _, rfl, B, bs, a, y, rfl, hB, hl, okv, hat, fun H1 T hT s1 => qs _ _ T rfl hT s1⟩
      | _ => exact okv.elim
    | @t m gs l4 okg =>
      rw [packM] at hat first q
      rw [normG] at q
      refine ⟨_, rfl, _, rfl, B, _, _, _, rfl, rfl, SqL.of hB, first rfl, ?_⟩
      refine ⟨_, rfl, _, _, rfl, rfl, _, rfl, iteDF (by decide) ?_⟩
      refine ⟨_, rfl, rfl, _, rfl, iteDF (fun e => absurd (V.int.inj e) (by decide)) ?_⟩
      refine ⟨_, rfl, rfl, _, rfl, iteDF (fun e => absurd (V.int.inj e) (by decide)) ?_⟩
      refine ⟨_, rfl, rfl, _, rfl, iteDF (fun e => absurd (V.int.inj e) (by decide)) ?_⟩
      refine ⟨_, rfl, rfl, _, rfl, iteDF (fun e => absurd (V.int.inj e) (by decide)) ?_⟩
      refine ⟨_, rfl, rfl, _, rfl, iteDF (fun e => absurd (V.int.inj e) (by decide)) ?_⟩
      refine ⟨_, rfl, rfl, _, rfl, iteDF (fun e => absurd (V.int.inj e) (by decide)) ?_⟩
      refine ⟨_, rfl, rfl, _, rfl, iteDF (fun e => absurd (V.int.inj e) (by decide)) ?_⟩
      refine ⟨_, rfl, _, rfl, B, bs, a, 6, gs, rfl, hB, hl, okg, l4, by omega, hat, fun L xs D H1 T h1 r fr nL L0 hT s1 => ?_⟩
      have lx : xs.length ≤ 4 := by rw [r.length, normL_map, List.length_map]; exact l4
      refine ⟨T, _, rfl, SqT.of hT, rfl, _, _, rfl, _, _, rfl, rfl, ?_⟩
      refine ⟨_, rfl, rfl, _, rfl, iteDT rfl ?_⟩
      refine ⟨_, rfl, L, xs, rfl, .inl ⟨SqL.of h1, fun p hp => ?_⟩⟩
      have s2 := same_new hp (.tup xs)
      refine ⟨_, rfl, (by show 2 ≤ sizeLine; decide), fun T' hT' => ?_⟩
      have s3 := same_new hT' (.tup [V.ref p, V.int (a + (3 + (packL gs).length) : Nat)])
      refine q (.ref p) D _ T' (.t (s3 _ _ upd_same) (by omega) (r.mono (s2.trans s3))) fr ?_ (s1.trans (s2.trans s3))
      have : a + ((6 : Int) :: (nb gs.length 2 ++ packL gs)).length = a + (3 + (packL gs).length) := by rw [List.length_cons, List.length_append, nb_len]; omega
      rw [this]; exact upd_same
    | @l m gs l4 okg =>
      rw [packM] at hat first q
      rw [normG] at q
      refine ⟨_, rfl, _, rfl, B, _, _, _, rfl, rfl, SqL.of hB, first rfl, ?_⟩
      refine ⟨_, rfl, _, _, rfl, rfl, _, rfl, iteDF (by decide) ?_⟩
      refine ⟨_, rfl, rfl, _, rfl, iteDF (fun e => absurd (V.int.inj e) (by decide)) ?_⟩
      refine ⟨_, rfl, rfl, _, rfl, iteDF (fun e => absurd (V.int.inj e) (by decide)) ?_⟩
      refine ⟨_, rfl, rfl, _, rfl, iteDF (fun e => absurd (V.int.inj e) (by decide)) ?_⟩
      refine ⟨_, rfl, rfl, _, rfl, iteDF (fun e => absurd (V.int.inj e) (by decide)) ?_⟩
      refine ⟨_, rfl, rfl, _, rfl, iteDF (fun e => absurd (V.int.inj e) (by decide)) ?_⟩
      refine ⟨_, rfl, rfl, _, rfl, iteDF (fun e => absurd (V.int.inj e) (by decide)) ?_⟩
      refine ⟨_, rfl, rfl, _, rfl, iteDF (fun e => absurd (V.int.inj e) (by decide)) ?_⟩
      refine ⟨_, rfl, _, rfl, B, bs, a, 7, gs, rfl, hB, hl, okg, l4, by omega, hat, fun L xs D H1 T h1 r fr nL L0 hT s1 => ?_⟩
      have lx : xs.length ≤ 4 := by rw [r.length, normL_map, List.length_map]; exact l4
      refine ⟨T, _, rfl, SqT.of hT, rfl, _, _, rfl, _, _, rfl, rfl, ?_⟩
      refine ⟨_, rfl, rfl, _, rfl, iteDF (fun e => absurd (V.int.inj e) (by decide)) ?_⟩
      refine ⟨_, rfl, _, rfl, (by show 2 ≤ sizeLine; decide), fun T' hT' => ?_⟩
      have s3 := same_new hT' (.tup [V.ref L, V.int (a + (3 + (packL gs).length) : Nat)])
      refine q (.ref L) (L :: D) _ T' (.l (s3 _ _ h1) (by omega) (r.mono s3)) (fun b hb => ?_) ?_ (s1.trans s3)
      · rcases List.mem_cons.mp hb with rfl | hb
        · exact L0
        · exact fr b hb
      have : a + ((7 : Int) :: (nb gs.length 2 ++ packL gs)).length = a + (3 + (packL gs).length) := by rw [List.length_cons, List.length_append, nb_len]; omega
      rw [this]; exact upd_same
    | @d m ks l4 nd okk okg =>
      refine ⟨_, rfl, _, rfl, B, _, _, _, rfl, rfl, SqL.of hB, first (packM_dD ks), ?_⟩
      refine ⟨_, rfl, _, _, rfl, rfl, _, rfl, iteDF (by decide) ?_⟩
      refine ⟨_, rfl, rfl, _, rfl, iteDF (fun e => absurd (V.int.inj e) (by decide)) ?_⟩
      refine ⟨_, rfl, rfl, _, rfl, iteDF (fun e => absurd (V.int.inj e) (by decide)) ?_⟩
      refine ⟨_, rfl, rfl, _, rfl, iteDF (fun e => absurd (V.int.inj e) (by decide)) ?_⟩
      refine ⟨_, rfl, rfl, _, rfl, iteDF (fun e => absurd (V.int.inj e) (by decide)) ?_⟩
      refine ⟨_, rfl, rfl, _, rfl, iteDF (fun e => absurd (V.int.inj e) (by decide)) ?_⟩
      refine ⟨_, rfl, rfl, _, rfl, iteDF (fun e => absurd (V.int.inj e) (by decide)) ?_⟩
      refine ⟨_, rfl, rfl, _, rfl, iteDT rfl ?_⟩
      exact ⟨_, rfl, _, rfl, B, bs, a, ks, rfl, hB, hl, .d l4 nd okk okg, by omega, hat, q⟩)
theorem ok_read_datas {f gi gd gm gt gg gy : Addr} {fd gid gdd gmd gtd ggd gyd : FuncData} (k : Kn K mg "read_data" s_read_data ["numbers", "at"] f fd) (kI : Kn K mg "read_items" s_read_items ["numbers", "at"] gi gid) (kD : Kn K mg "read_dict" s_read_dict ["numbers", "at"] gd gdd) (z : Z mg)
    (c_read_number : Cal P w K mg base 2 "read_number" ["numbers", "at", "many"] spRNum gm gmd)
    (c_read_negative : Cal P w K mg base 3 "read_negative" ["numbers", "at"] spRNeg gg ggd)
    (c_read_text : Cal P w K mg base 3 "read_text" ["numbers", "at"] spRTxt gt gtd)
    (c_may_follow : Cal P w K mg base 1 "may_follow" ["key", "before"] spFollow gy gyd) : ∀ n : Nat, Cal P w K mg base (2 * n + 5) "read_data" ["numbers", "at"] (spRead (n + 1)) f fd
  | 0 => ok_read_data (n := 0) k z c_read_number c_read_negative c_read_text (kI.cal no_ritems) (kD.cal no_rdict)
  | n + 1 => by
    have h := ok_read_datas k kI kD z c_read_number c_read_negative c_read_text c_may_follow n
    exact ok_read_data (n := n + 1) k z c_read_number c_read_negative c_read_text (ok_read_items kI z c_read_number h) (ok_read_dict kD z c_read_number c_may_follow h)
theorem ok_unpack {f : Addr} {fd : FuncData} (k : Kn K mg "unpack" s_unpack ["numbers"] f fd) (z : Z mg)
    {g_read_data : Addr} {gd_read_data : FuncData} (c_read_data : Cal P w K mg base 13 "read_data" ["numbers", "at"] (spRead 5) g_read_data gd_read_data) :
    Cal P w K mg base 14 "unpack" ["numbers"] (spUnpack) f fd := k.cal (by
  refine k.F.ok sc_unpack (fun vs H Q E h => ?_) (fun cdv A outer s H vs Q E hr h => ?_)
  · obtain ⟨B, g, rfl, _⟩ := h; rfl
  · obtain ⟨B, g, rfl, hB, ok, q⟩ := h
    refine ⟨_, (pss_cons (ps_asg (pe_call c_read_data.G (hr.mono (by decide)) (by rfl) c_read_data.m c_read_data.kp c_read_data.b .nil pass0 (pa_cons (pv 0) (pa_cons pe_int pa_nil))) (pg_tup (by rfl) (pgs_cons (pg_name (i := 1) sc_unpack.nd rfl (Or.inl rfl)) (pgs_cons (pg_name (i := 2) sc_unpack.nd rfl (Or.inl rfl)) pgs_nil))))
        (pss_cons (ps_if (pt_cmpR op_lt (pv 2) (pe_callB call_len_seq (by rfl) z.len (by decide +kernel) (pa_cons (pv 0) pa_nil)) (nomark _)) (pss_one ps_no0) pss_nil)
        (pss_one (ps_ret (pv 1))))), ?_⟩
    have hl : (packM g).length ≤ 1000000 := by have := pack_len ok; have := plen4; omega
    refine ⟨_, rfl, B, packM g, 0, g, rfl, hB, hl, ok, by decide, ⟨[], by rw [List.drop_zero, List.append_nil]⟩, fun v D H1 T hg fr hT s1 => ?_⟩
    refine ⟨T, _, rfl, SqT.of hT, rfl, _, _, rfl, _, _, rfl, rfl, ?_⟩
    refine ⟨_, rfl, _, rfl, B, _, rfl, .inl (SqL.of (s1 _ _ hB)), _, _, rfl, rfl, _, rfl, iteDF (by rw [List.length_map]; omega) ?_⟩
    exact ⟨_, rfl, q v D H1 hg fr s1⟩)
theorem ok_records_of {f : Addr} {fd : FuncData} (k : Kn K mg "records_of" s_records_of ["numbers"] f fd) (z : Z mg)
    {g_bytes_number : Addr} {gd_bytes_number : FuncData} (c_bytes_number : Cal P w K mg base 1 "bytes_number" ["numbers"] (spBNum) g_bytes_number gd_bytes_number)
    {g_unpack : Addr} {gd_unpack : FuncData} (c_unpack : Cal P w K mg base 14 "unpack" ["numbers"] (spUnpack) g_unpack gd_unpack) :
    Cal P w K mg base 15 "records_of" ["numbers"] (spRecs) f fd := k.cal (by
  obtain ⟨t_HEAD_BYTES, k_HEAD_BYTES⟩ := z.c_HEAD_BYTES
  refine k.F.ok sc_records_of (fun vs H Q E h => ?_) (fun cdv A outer s H vs Q E hr h => ?_)
  · obtain ⟨B, gs, cut, rfl, _⟩ := h; rfl
  · obtain ⟨B, gs, cut, rfl, hB, okg, l5, hc, q⟩ := h
    refine ⟨_, (pss_cons (ps_set (i := 1) sc_records_of.nd rfl (Or.inl rfl) (pe_lst pa_nil))
        (pss_cons (ps_set (i := 2) sc_records_of.nd rfl (Or.inl rfl) (pe_glob (v := .int (4)) rfl k_HEAD_BYTES ⟨_, rfl⟩))
        (pss_cons (ps_while PassesOwn.never (pt_cmpR op_le (pv 2) (pe_callB call_len_seq (by rfl) z.len (by decide +kernel) (pa_cons (pv 0) pa_nil)) (nomark _))
        (pss_cons (ps_set (i := 3) sc_records_of.nd rfl (Or.inl rfl) (pe_op op_add (pv 2) (pe_call c_bytes_number.G (hr.mono (by decide)) (by rfl) c_bytes_number.m c_bytes_number.kp c_bytes_number.b .nil pass0 (pa_cons (pe_slice sl_list (pv 0) (po_some (pe_op op_sub (pv 2) (pe_glob (v := .int (4)) rfl k_HEAD_BYTES ⟨_, rfl⟩))) (po_some (pv 2))) pa_nil))))
        (pss_cons (ps_if (pt_cmpR op_gt (pv 3) (pe_callB call_len_seq (by rfl) z.len (by decide +kernel) (pa_cons (pv 0) pa_nil)) (nomark _)) (pss_one (ps_ret (pv 1))) pss_nil)
        (pss_cons (ps_expr (pe_bm PySem.F.plainAttrs_list PySem.F.slot_list_append PySem.F.type_list_append mt_append (pv 1) (pa_cons (pe_call c_unpack.G (hr.mono (by decide)) (by rfl) c_unpack.m c_unpack.kp c_unpack.b .nil pass0 (pa_cons (pe_slice sl_list (pv 0) (po_some (pv 2)) (po_some (pv 3))) pa_nil)) pa_nil)))
        (pss_one (ps_set (i := 2) sc_records_of.nd rfl (Or.inl rfl) (pe_op op_add (pv 3) (pe_glob (v := .int (4)) rfl k_HEAD_BYTES ⟨_, rfl⟩))))))))
        (pss_one (ps_ret (pv 1)))))), ?_⟩
    have ht := fr_total okg l5
    have lp : ((frL gs).take cut).length = cut := by rw [List.length_take]; omega
    refine ⟨Nat.zero_le _, fun F hF => ?_⟩
    refine ⟨fun m σ H' => ∃ (i : Nat) (ve : Option V) (xs : List V) (D : List Addr), m = gs.length - i ∧ i ≤ fitN gs cut ∧ σ = [some (.ref B), some (.ref F), some (.int ((frL (gs.take i)).length + 4 : Nat)), ve] ∧ H' F = some (.lst xs) ∧ GpL H' xs (normL (gs.take i)) D ∧ (∀ b ∈ D, H b = none) ∧ F ∉ D ∧ Same H H', ⟨_, 0, none, [], [], rfl, Nat.zero_le _, rfl, upd_same, .nil, (fun b hb => by cases hb), (fun hb => by cases hb), same_new hF _⟩, ?_⟩
    rintro m σ H1 ⟨i, ve, xs, D, rfl, hi, rfl, h1, r, fr, nF, s1⟩
    have hB1 := s1 _ _ hB
    have ile := fit_le gs cut
    refine ⟨_, rfl, _, rfl, B, _, rfl, .inl (SqL.of hB1), _, _, rfl, rfl, _, rfl, ?_⟩
    have fin : ∀ {R : VK}, fitN gs cut ≤ i → R = Q → R (.ref F) H1 := fun {R} h e => by
      subst e
      have e : i = fitN gs cut := by omega
      rw [e] at r
      exact q F xs D H1 h1 r fr nF hF s1
    refine ifD (fun hs => ?_) (fun hs => ?_)
    rotate_left
    · refine ⟨_, rfl, fin ?_ rfl⟩
      rw [List.length_map, lp] at hs
      rcases Nat.lt_or_ge i (fitN gs cut) with h | h
      · exfalso
        have eg : gs[i]? = some (gs[i]'(by omega)) := List.getElem?_eq_getElem (by omega)
        have := (fit_iff gs cut i (by omega)).mpr h
        rw [frL_take eg, List.length_append, frM_len] at this
        omega
      · exact h
    rw [List.length_map, lp] at hs
    have ig : i < gs.length := by
      rcases Nat.lt_or_ge i gs.length with h | h
      · exact h
      · exfalso
        rw [List.take_of_length_le h] at hs
        omega
    have eg : gs[i]? = some gs[i] := List.getElem?_eq_getElem ig
    generalize gs[i] = g1 at eg
    have ok1 := (okg g1 (List.mem_of_getElem? eg)).up (m := 4) (by decide)
    have eL := frL_at eg
    have fT := frL_take eg
    have b1 : (packM g1).length < 256 ^ 4 := Nat.lt_of_le_of_lt (Nat.le_trans (pack_len ok1) plen4) (by decide)
    have fi := fit_iff gs cut i ig
    rw [fT, List.length_append, frM_len] at fi
    have mn := frL_mono gs (i + 1)
    rw [fT, List.length_append, frM_len] at mn
    generalize eo : (frL (gs.take i)).length = o at *
    have hd : (((frL gs).take cut).drop o).take 4 = nb (packM g1).length 4 := by
      rw [cut_in _ _ _ _ (by omega), ← eo]
      have := drop_mid eL
      rw [nb_len] at this
      exact this
    refine ⟨fun σ' H' => ∃ m', m' < gs.length - i ∧ ∃ (j : Nat) (ve : Option V) (xs : List V) (D : List Addr), m' = gs.length - j ∧ j ≤ fitN gs cut ∧ σ' = [some (.ref B), some (.ref F), some (.int ((frL (gs.take j)).length + 4 : Nat)), ve] ∧ H' F = some (.lst xs) ∧ GpL H' xs (normL (gs.take j)) D ∧ (∀ b ∈ D, H b = none) ∧ F ∉ D ∧ Same H H', fun σ' H' h => h, ?_⟩
    refine ⟨_, rfl, _, rfl, _, rfl, _, _, rfl, rfl, _, rfl, _, rfl, _, rfl, B, _, rfl, SqL.of hB1, fun L hL => ?_⟩
    have e1 : cutV (((frL gs).take cut).map V.int) (some (((o + 4 : Nat) : Int) - 4)) (some ((o + 4 : Nat) : Int)) = (nb (packM g1).length 4).map V.int := by
      rw [cut_midI _ o 4 (by rw [lp]; omega) (by omega) (by omega), hd]
    rw [e1]
    have s2 := s1.trans (same_new hL (.lst ((nb (packM g1).length 4).map V.int)))
    have h2 := same_new hL (.lst ((nb (packM g1).length 4).map V.int)) _ _ h1
    have r2 := r.mono (same_new hL (.lst ((nb (packM g1).length 4).map V.int)))
    have hL2 : (upd H1 L (.lst ((nb (packM g1).length 4).map V.int))) L = some (.lst ((nb (packM g1).length 4).map V.int)) := upd_same
    generalize upd H1 L (.lst ((nb (packM g1).length 4).map V.int)) = H2 at s2 h2 r2 hL2 ⊢
    refine ⟨L, nb (packM g1).length 4, rfl, hL2, by rw [nb_len]; decide, _, _, rfl, rfl, ?_⟩
    rw [valB_nb 4 _ b1]
    refine ⟨_, rfl, _, rfl, B, _, rfl, .inl (SqL.of (s2 _ _ hB)), _, _, rfl, rfl, _, rfl, ?_⟩
    refine ifD (fun he => ?_) (fun he => ?_)
    · rw [List.length_map, lp] at he
      refine ⟨_, rfl, ?_⟩
      have e : i = fitN gs cut := by
        rcases Nat.lt_or_ge i (fitN gs cut) with h | h
        · have := fi.mpr h
          omega
        · omega
      rw [e] at r2
      exact q F xs D H2 h2 r2 fr nF hF s2
    rw [List.length_map, lp] at he
    have hi2 : i < fitN gs cut := fi.mp (by omega)
    refine ⟨_, rfl, .inl ⟨rfl, _, SqL.of h2⟩, _, rfl, _, rfl, _, rfl, _, rfl, _, rfl, B, _, rfl, SqL.of (s2 _ _ hB), fun M hM => ?_⟩
    have hp : (((frL gs).take cut).drop (o + 4)).take (packM g1).length = packM g1 := by
      rw [cut_in _ _ _ _ (by omega), ← eo]
      have e2 : frL gs = (frL (gs.take i) ++ nb (packM g1).length 4) ++ (packM g1 ++ frL (gs.drop (i + 1))) := by rw [eL]; simp only [List.append_assoc]
      have := drop_mid e2
      rw [List.length_append, nb_len] at this
      exact this
    have e2 : cutV (((frL gs).take cut).map V.int) (some ((o + 4 : Nat) : Int)) (some (((o + 4 : Nat) : Int) + ((packM g1).length : Nat))) = (packM g1).map V.int := by
      rw [cut_midI _ (o + 4) (packM g1).length (by rw [lp]; omega) rfl rfl, hp]
    have e3 : (upd H2 M (.lst (cutV (((frL gs).take cut).map V.int) (some ((o + 4 : Nat) : Int)) (some (((o + 4 : Nat) : Int) + ((packM g1).length : Nat)))))) M = some (.lst ((packM g1).map V.int)) := by rw [e2]; exact upd_same
    have s3 := s2.trans (same_new hM (.lst (cutV (((frL gs).take cut).map V.int) (some ((o + 4 : Nat) : Int)) (some (((o + 4 : Nat) : Int) + ((packM g1).length : Nat))))))
    have h3 := same_new hM (.lst (cutV (((frL gs).take cut).map V.int) (some ((o + 4 : Nat) : Int)) (some (((o + 4 : Nat) : Int) + ((packM g1).length : Nat))))) _ _ h2
    have r3 := r2.mono (same_new hM (.lst (cutV (((frL gs).take cut).map V.int) (some ((o + 4 : Nat) : Int)) (some (((o + 4 : Nat) : Int) + ((packM g1).length : Nat))))))
    refine ⟨M, g1, rfl, e3, ok1, fun v D2 H4 hv fr2 s4 => ?_⟩
    have h4 := s4 _ _ h3
    have r4 := r3.mono s4
    have lx : xs.length = i := by have := r.length; rw [normL_map, List.length_map, List.length_take] at this; omega
    have D2F : ∀ b ∈ D2, b ≠ F := fun b hb z => by have := fr2 b hb; rw [z, h3] at this; cases this
    have ku : KeepT H4 (upd H4 F (.lst (xs ++ [v]))) := KeepT.upd fun zs z => by rw [h4] at z; cases z
    refine ⟨F, _, _, rfl, rfl, h4, (by rw [lx]; exact small1000 (by omega)), ?_⟩
    refine ⟨_, rfl, _, _, rfl, rfl, ?_⟩
    refine ⟨gs.length - (i + 1), by omega, i + 1, some (.int (((o + 4 : Nat) : Int) + ((packM g1).length : Nat))), xs ++ [v], D ++ D2, rfl, by omega, ?_, upd_same, ?_, ?_, ?_, same_upd hF _ (s3.trans s4)⟩
    · have : (((o + 4 : Nat) : Int) + ((packM g1).length : Nat)) + 4 = (((frL (gs.take (i + 1))).length + 4 : Nat) : Int) := by rw [fT, List.length_append, frM_len, eo]; omega
      rw [← this]; rfl
    · have en : normL (gs.take (i + 1)) = normL (gs.take i) ++ [normG g1] := by rw [normL_map, normL_map, List.take_add_one, eg, List.map_append]; rfl
      rw [en]
      exact GpL.snoc (r4.frame ku fun b hb o e => by rw [upd_ne (fun z => nF (by rw [← z]; exact hb))]; exact e) (hv.frame ku fun b hb o e => by rw [upd_ne (D2F b hb)]; exact e)
    · intro b hb
      rcases List.mem_append.mp hb with h | h
      · exact fr b h
      · exact s3.free (fr2 b h)
    · intro hb
      rcases List.mem_append.mp hb with h | h
      · exact nF h
      · exact D2F F h rfl)
theorem ok_law {f : Addr} {fd : FuncData} (k : Kn K mg "law" s_law ["script"] f fd) (z : Z mg)
    {g_law_tape : Addr} {gd_law_tape : FuncData} (c_law_tape : Cal P w K mg base 1 "_law_tape" ["script"] (spTape K) g_law_tape gd_law_tape)
    {g_law_take : Addr} {gd_law_take : FuncData} (c_law_take : Cal P w K mg base 1 "_law_take" ["tape", "many"] (spTake) g_law_take gd_law_take)
    {g_law_data : Addr} {gd_law_data : FuncData} (c_law_data : Cal P w K mg base 8 "_law_data" ["tape", "depth"] (spDraws 3) g_law_data gd_law_data)
    {g_law_pack : Addr} {gd_law_pack : FuncData} (c_law_pack : Cal P w K mg base 7 "_law_pack" ["data"] (spPack 5) g_law_pack gd_law_pack)
    {g_law_bytes : Addr} {gd_law_bytes : FuncData} (c_law_bytes : Cal P w K mg base 1 "_law_bytes" ["number", "size"] (spNB) g_law_bytes gd_law_bytes)
    {g_law_same : Addr} {gd_law_same : FuncData} (c_law_same : Cal P w K mg base 18 "_law_same" ["actual", "expected"] (spSameE 9) g_law_same gd_law_same)
    {g_frame : Addr} {gd_frame : FuncData} (c_frame : Cal P w K mg base 14 "frame" ["record"] (spFrame) g_frame gd_frame)
    {g_records_of : Addr} {gd_records_of : FuncData} (c_records_of : Cal P w K mg base 15 "records_of" ["numbers"] (spRecs) g_records_of gd_records_of) :
    Cal P w K mg base 19 "law" ["script"] (spLaw K) f fd := k.cal (by
  refine k.F.ok sc_law (fun vs H Q E h => ?_) (fun cdv A outer s H vs Q E hr h => ?_)
  · obtain ⟨a, ns, rfl, _⟩ := h; rfl
  · obtain ⟨a, ns, rfl, hS, h63, q⟩ := h
    have hu := hu_of hr
    refine ⟨_, (pss_cons (ps_set (i := 1) sc_law.nd rfl (Or.inr rfl) (pe_call c_law_tape.G (hr.mono (by decide)) (by rfl) c_law_tape.m c_law_tape.kp c_law_tape.b .nil pass0 (pa_cons (pv 0) pa_nil)))
        (pss_cons (ps_set (i := 2) sc_law.nd rfl (Or.inr rfl) (pe_lc (own := [("k", 11)]) (g := gName 11) (tt := tYes) (by rfl) sc_law.nd (pi_range1 (by rfl) z.range (pa_cons (pe_call c_law_take.G (hr.mono (by decide)) (by rfl) c_law_take.m c_law_take.kp c_law_take.b .nil pass0 (pa_cons (pv 1) (pa_cons pe_int pa_nil))) pa_nil)) (blkOk_by (own := [("k", 11)]) (N := ["script", "tape", "records", "numbers", "ends", "record", "packed", "expected", "cuts", "cut", "part", "k"]) (sc := defScope s_law) (by decide +kernel)) (fun _ _ _ _ _ => pg_name (i := 11) sc_law.nd rfl (Or.inl rfl)) (fun _ _ _ _ _ => pts_nil) (fun _ _ _ _ _ => (pe_call c_law_data.G (hr.mono (by decide)) (by rfl) c_law_data.m c_law_data.kp c_law_data.b .nil pass0 (pa_cons (pv 1) (pa_cons pe_int pa_nil))))))
        (pss_cons (ps_set (i := 3) sc_law.nd rfl (Or.inl rfl) (pe_lst pa_nil))
        (pss_cons (ps_set (i := 4) sc_law.nd rfl (Or.inr rfl) (pe_lst pa_nil))
        (pss_cons (ps_for PassesOwn.never rfl (pi_list (pv 2)) (pg_name (i := 5) sc_law.nd rfl (Or.inl rfl))
        (pss_cons (ps_set (i := 6) sc_law.nd rfl (Or.inl rfl) (pe_call c_law_pack.G (hr.mono (by decide)) (by rfl) c_law_pack.m c_law_pack.kp c_law_pack.b .nil pass0 (pa_cons (pv 5) pa_nil)))
        (pss_cons (ps_set (i := 7) sc_law.nd rfl (Or.inl rfl) (pe_op op_cat (pe_call c_law_bytes.G (hr.mono (by decide)) (by rfl) c_law_bytes.m c_law_bytes.kp c_law_bytes.b .nil pass0 (pa_cons (pe_callB call_len_seq (by rfl) z.len (by decide +kernel) (pa_cons (pv 6) pa_nil)) (pa_cons pe_int pa_nil))) (pv 6)))
        (pss_cons (ps_if (pt_not (pt_val (pe_call c_law_same.G (hr.mono (by decide)) (by rfl) c_law_same.m c_law_same.kp c_law_same.b .nil pass0 (pa_cons (pe_call c_frame.G (hr.mono (by decide)) (by rfl) c_frame.m c_frame.kp c_frame.b .nil pass0 (pa_cons (pv 5) pa_nil)) (pa_cons (pv 7) pa_nil))))) (pss_one (ps_ret pe_bl)) pss_nil)
        (pss_cons (ps_set (i := 3) sc_law.nd rfl (Or.inl rfl) (pe_op op_cat (pv 3) (pv 7)))
        (pss_one (ps_expr (pe_bm PySem.F.plainAttrs_list PySem.F.slot_list_append PySem.F.type_list_append mt_append (pv 4) (pa_cons (pe_callB call_len_seq (by rfl) z.len (by decide +kernel) (pa_cons (pv 3) pa_nil)) pa_nil)))))))))
        (pss_cons (ps_set (i := 8) sc_law.nd rfl (Or.inl rfl) (pe_lst (pa_cons (pe_callB call_len_seq (by rfl) z.len (by decide +kernel) (pa_cons (pv 3) pa_nil)) (pa_cons (pe_call c_law_take.G (hr.mono (by decide)) (by rfl) c_law_take.m c_law_take.kp c_law_take.b .nil pass0 (pa_cons (pv 1) (pa_cons (pe_op op_add (pe_callB call_len_seq (by rfl) z.len (by decide +kernel) (pa_cons (pv 3) pa_nil)) pe_int) pa_nil))) (pa_cons (pe_call c_law_take.G (hr.mono (by decide)) (by rfl) c_law_take.m c_law_take.kp c_law_take.b .nil pass0 (pa_cons (pv 1) (pa_cons (pe_op op_add (pe_callB call_len_seq (by rfl) z.len (by decide +kernel) (pa_cons (pv 3) pa_nil)) pe_int) pa_nil))) pa_nil)))))
        (pss_cons (ps_for PassesOwn.never rfl (pi_list (pe_op op_cat (pv 8) (pv 4))) (pg_name (i := 9) sc_law.nd rfl (Or.inr rfl))
        (pss_cons (ps_setLc (i := 7) (own := [("k", 11)]) (g := gName 11) (by rfl) sc_law.nd rfl rfl (sw_true rfl rfl rfl (by decide +kernel)) (pi_range1 (by rfl) z.range (pa_cons (pe_callB call_len_seq (by rfl) z.len (by decide +kernel) (pa_cons (pv 2) pa_nil)) pa_nil)) (blkOk_by (own := [("k", 11)]) (N := ["script", "tape", "records", "numbers", "ends", "record", "packed", "expected", "cuts", "cut", "part", "k"]) (sc := defScope s_law) (by decide +kernel)) (fun _ _ _ _ _ => pg_name (i := 11) sc_law.nd rfl (Or.inl rfl)) (fun _ _ _ _ _ => (pts_one (pt_cmpR op_le (pe_ix (r := rIxL K) ix_list (pv 4) (pv 11) (fun _ _ => rfl)) (pv 9) (nomark _)))) (fun _ _ _ _ _ => (pe_ix (r := rIxL K) ix_list (pv 2) (pv 11) (fun _ _ => rfl))))
        (pss_cons (ps_set (i := 10) sc_law.nd rfl (Or.inl rfl) (pe_slice sl_list (pv 3) po_none (po_some (pv 9))))
        (pss_one (ps_if (PW.pt (pw_or (pt_not (pt_val (pe_call c_law_same.G (hr.mono (by decide)) (by rfl) c_law_same.m c_law_same.kp c_law_same.b .nil pass0 (pa_cons (pe_call c_records_of.G (hr.mono (by decide)) (by rfl) c_records_of.m c_records_of.kp c_records_of.b .nil pass0 (pa_cons (pv 10) pa_nil)) (pa_cons (pv 7) pa_nil))))) (pw_or1 (pt_cmpR (op_neD hr.units) (pv 10) (pe_slice sl_list (pv 3) po_none (po_some (pv 9))) (nomark _))))) (pss_one (ps_ret pe_bl)) pss_nil)))))
        (pss_one (ps_ret pe_bl))))))))), ?_⟩
    refine ⟨_, rfl, a, ns, rfl, hS, h63, fun t c cs H1 T1 s1 _ => ?_⟩
    refine ⟨_, rfl, t, c, cs, 6, rfl, T1, by decide, by decide +kernel, fun cn H2 cn0 cn1 T2 x2 => ?_⟩
    refine ⟨_, rfl, by omega, by omega, fun N hN => ?_⟩
    have e3 := same_new hN (.lst [])
    have Nt : N ≠ t := fun z => by
      obtain ⟨_, _, _, _, e, _⟩ := T2.dk
      rw [← z, hN] at e; cases e
    have Nc : N ≠ c := fun z => by have e := T2.ls; rw [← z, hN] at e; cases e
    refine lc_range (lo := 0) (n := cn.toNat) (fun i H' => ∃ xs gs D, H' N = some (.lst xs) ∧ gs.length = i ∧ GpL H' xs gs D ∧ (∀ g ∈ gs, DOk 2 g) ∧ (∀ a ∈ D, H2 a = none ∧ a ≠ N) ∧ TapeAt H' t c cs ∧ SameX t H2 H') ⟨[], [], [], upd_same, rfl, .nil, (fun g hg => by cases hg), (fun a ha => by cases ha), T2.mono e3, SameX.of e3⟩ ?_ ?_
    · rintro i H3 hi ⟨xs, gs, D, h3, h4, r, okg, fr, T3, x3⟩
      refine ⟨rfl, _, rfl, t, c, cs, rfl, T3, by decide, fun v g D2 H4 hg okg2 fr2 T4 x4 => ?_⟩
      have h3' := x4 _ _ h3 Nt
      have D2N : ∀ a ∈ D2, a ≠ N := fun a ha z => by have := fr2 a ha; rw [z, h3] at this; cases this
      have Dt : ∀ a ∈ D, a ≠ t := fun a ha z => by
        obtain ⟨_, _, _, _, e, _⟩ := T2.dk
        have := (fr a ha).1
        rw [z, e] at this; cases this
      have r4 : GpL H4 xs gs D := r.frame (KeepT.ofX T3 x4) fun b hb o e => x4 _ _ e (Dt b hb)
      have ku : KeepT H4 (upd H4 N (.lst (xs ++ [v]))) := KeepT.upd fun zs z => by rw [h3'] at z; cases z
      refine ⟨xs, h3', (by rw [r.length]; exact small1000 (by omega)), xs ++ [v], gs ++ [g], D ++ D2, upd_same, by simp [h4], ?_, ?_, ?_, T4.upd Nt Nc.symm, samex_upd hN _ (x3.trans x4)⟩
      · exact GpL.snoc (r4.frame ku fun b hb o e => by rw [upd_ne (fr b hb).2]; exact e) (hg.frame ku fun b hb o e => by rw [upd_ne (D2N b hb)]; exact e)
      · intro g' hg'
        rcases List.mem_append.mp hg' with h | h
        · exact okg g' h
        · rw [List.mem_singleton.mp h]; exact okg2
      · intro b hb
        rcases List.mem_append.mp hb with h | h
        · exact fr b h
        · refine ⟨x3.free (fun z => ?_) (fr2 b h), D2N b h⟩
          obtain ⟨_, _, _, _, e, _⟩ := T3.dk
          have := fr2 b h
          rw [z, e] at this; cases this
    rintro H3 ⟨xs, gs, D, hN3, hlen, r, okg, fr, T3, x3⟩
    have l5 : gs.length ≤ 5 := by omega
    have lx : xs.length = gs.length := r.length
    have ht := fr_total okg l5
    have Dt : ∀ a ∈ D, a ≠ t := fun a ha z => by
      obtain ⟨_, _, _, _, e, _⟩ := T2.dk
      have := (fr a ha).1
      rw [z, e] at this; cases this
    clear hlen fr x3
    refine ⟨Nat.zero_le _, fun M0 hM0 => ?_⟩
    refine ⟨Nat.zero_le _, fun E0 hE0 => ?_⟩
    have sM := same_new hM0 (.lst [])
    have sE := same_new hE0 (.lst [])
    have E30 : H3 E0 = none := sM.free hE0
    have ME : M0 ≠ E0 := ne_of_none upd_same hE0
    refine ⟨_, rfl, N, rfl, ⟨_, SqL.of (sE _ _ (sM _ _ hN3))⟩, for_list (K := K) (a := N) (xs := xs) (fun i σ H' => ∃ M v5 v6 v7 v8 v9 v10 v11, σ = [some (.ref a), some (.ref t), some (.ref N), some (.ref M), some (.ref E0), v5, v6, v7, v8, v9, v10, v11] ∧ H' M = some (.lst ((frL (gs.take i)).map V.int)) ∧ H' E0 = some (.lst ((endsL gs i).map V.int)) ∧ M ≠ E0 ∧ Same H3 H') ⟨M0, _, _, _, _, _, _, _, rfl, sE _ _ upd_same, upd_same, ME, sM.trans sE⟩ (fun i σ H' _ ⟨_, _, _, _, _, _, _, _, _, _, _, _, s⟩ => SqL.of (s _ _ hN3)) ?_ ?_⟩
    · rintro i x σ H4 hi ⟨M, v5, v6, v7, v8, v9, v10, v11, rfl, hM, hE, nME, s4⟩
      obtain ⟨g1, D1, e1, p1, i1⟩ := r.get hi
      have ok1 := (okg g1 (List.mem_of_getElem? e1)).up (m := 4) (by decide)
      have fT := frL_take e1
      have mn := frL_mono gs (i + 1)
      have hl1 : (packM g1).length ≤ 300000 := Nat.le_trans (pack_len ok1) plen4
      refine ⟨_, rfl, x, g1, D1, rfl, p1.mono s4, ok1, by decide, fun p H5 hp s5 np => ?_⟩
      refine ⟨_, rfl, p, _, rfl, .inl (SqL.of hp), ((packM g1).map V.int).length, 4, rfl, by decide, fun p2 H6 hp2 s6 np2 => ?_⟩
      refine ⟨_, rfl, _, _, _, _, rfl, rfl, hp2, s6 _ _ hp, ?_, fun X hX => ?_⟩
      · rw [List.length_map, List.length_map, nb_len]; exact small6 (by omega)
      have e7 : (nb ((packM g1).map V.int).length 4).map V.int ++ (packM g1).map V.int = (frM g1).map V.int := by rw [List.length_map, ← List.map_append]; rfl
      rw [e7]
      have s47 := s5.trans (s6.trans (same_new hX (.lst ((frM g1).map V.int))))
      have hX7 : (upd H6 X (.lst ((frM g1).map V.int))) X = some (.lst ((frM g1).map V.int)) := upd_same
      generalize upd H6 X (.lst ((frM g1).map V.int)) = H7 at s47 hX7 ⊢
      have fl : (frM g1).length ≤ 1000000 := by rw [frM_len]; omega
      refine ⟨_, rfl, x, g1, D1, rfl, p1.mono (s4.trans s47), ok1, fun F H8 hF s8 nF => ?_⟩
      refine ⟨_, rfl, .inr ⟨by decide, F, X, frM g1, rfl, hF, s8 _ _ hX7, fl, _, rfl, iteF ?_⟩⟩
      have s48 := s47.trans s8
      refine ⟨_, rfl, _, rfl, _, _, _, _, rfl, rfl, s48 _ _ hM, s8 _ _ hX7, ?_, fun M' hM' => ?_⟩
      · rw [List.length_map, List.length_map]
        rw [fT, List.length_append] at mn
        exact small6 (by omega)
      rw [← List.map_append, ← fT]
      have s49 := s48.trans (same_new hM' (.lst ((frL (gs.take (i + 1))).map V.int)))
      have hE9 := s49 _ _ hE
      have nM' : M' ≠ E0 := (ne_of_none (s48 _ _ hE) hM').symm
      refine ⟨_, rfl, .inl ⟨rfl, _, SqL.of hE9⟩, _, rfl, M', _, rfl, .inl (SqL.of upd_same), E0, _, _, rfl, rfl, hE9, ?_, ?_⟩
      · rw [List.length_map, endsL_len]; exact small1000 (by have := (List.getElem?_eq_some_iff.mp hi).1; omega)
      refine ⟨M', _, _, _, _, _, _, _, rfl, ?_, ?_, nM', same_upd E30 _ (s4.trans s49)⟩
      · rw [upd_ne nM']; exact upd_same
      · rw [upd_same, endsL_succ, List.map_append, List.length_map]; rfl
    rintro σ H4 ⟨M, v5, v6, v7, v8, v9, v10, v11, rfl, hM, hE, nME, s4⟩
    rw [lx, List.take_length] at hM
    rw [lx] at hE
    have T4 := T3.mono s4
    have many : (((((frL gs).map V.int).length : Nat) : Int) + 1).natAbs < 2 ^ 9000 := by
      rw [List.length_map]
      exact Nat.lt_of_le_of_lt (m := 400001) (by omega) (by decide +kernel)
    refine ⟨_, rfl, M, _, rfl, .inl (SqL.of hM), ?_⟩
    refine ⟨_, rfl, _, rfl, M, _, rfl, .inl (SqL.of hM), _, _, rfl, rfl, t, c, cs, _, rfl, T4, by omega, many, fun c1 H5 c10 c11 T5 x5 => ?_⟩
    have nMt : M ≠ t := fun z => by
      obtain ⟨_, _, _, _, e, _⟩ := T4.dk
      rw [← z, hM] at e; cases e
    have nEt : E0 ≠ t := fun z => by
      obtain ⟨_, _, _, _, e, _⟩ := T4.dk
      rw [← z, hE] at e; cases e
    have hM5 := x5 _ _ hM nMt
    refine ⟨_, rfl, _, rfl, M, _, rfl, .inl (SqL.of hM5), _, _, rfl, rfl, t, c, cs, _, rfl, T5, by omega, many, fun c2 H6 c20 c21 T6 x6 => ?_⟩
    have x46 := x5.trans x6
    have hM6 := x46 _ _ hM nMt
    have hE6 := x46 _ _ hE nEt
    have hN6 := x46 _ _ (s4 _ _ hN3) Nt
    have r6 : GpL H6 xs gs D := (r.mono s4).frame (KeepT.ofX T4 x46) fun b hb o e => x46 _ _ e (Dt b hb)
    rw [List.length_map] at c11 c21 ⊢
    refine ⟨(by show 3 ≤ sizeLine; decide), fun C hC => ?_⟩
    have sC := same_new hC (.lst [V.int ((frL gs).length : Nat), V.int c1, V.int c2])
    refine ⟨_, rfl, _, rfl, _, _, _, _, rfl, rfl, upd_same, sC _ _ hE6, ?_, fun W hW => ?_⟩
    · rw [List.length_map, endsL_len]; exact small6 (by simp only [List.length_cons, List.length_nil]; omega)
    have sW := sC.trans (same_new hW (.lst ([V.int ((frL gs).length : Nat), V.int c1, V.int c2] ++ (endsL gs gs.length).map V.int)))
    have cutAt : ∀ (i : Nat) (x : V), ([V.int ((frL gs).length : Nat), V.int c1, V.int c2] ++ (endsL gs gs.length).map V.int)[i]? = some x → ∃ m : Nat, x = .int m ∧ m ≤ (frL gs).length := fun i x e => by
      have hm := List.mem_of_getElem? e
      rcases List.mem_append.mp hm with h | h
      · simp only [List.mem_cons, List.not_mem_nil, or_false] at h
        rcases h with rfl | rfl | rfl
        · exact ⟨_, rfl, Nat.le_refl _⟩
        · exact ⟨c1.toNat, by rw [Int.toNat_of_nonneg c10], by omega⟩
        · exact ⟨c2.toNat, by rw [Int.toNat_of_nonneg c20], by omega⟩
      · obtain ⟨y, h1, rfl⟩ := List.mem_map.mp h
        obtain ⟨m, rfl, h2⟩ := endsL_mem h1
        exact ⟨m, rfl, h2⟩
    generalize [V.int ((frL gs).length : Nat), V.int c1, V.int c2] ++ (endsL gs gs.length).map V.int = ws at hW sW cutAt ⊢
    have hM7 := sW _ _ hM6
    have hE7 := sW _ _ hE6
    have hN7 := sW _ _ hN6
    have r7 := r6.mono sW
    have hW7 : (upd (upd H6 C (.lst [V.int ((frL gs).length : Nat), V.int c1, V.int c2])) W (.lst ws)) W = some (.lst ws) := upd_same
    generalize upd (upd H6 C (.lst [V.int ((frL gs).length : Nat), V.int c1, V.int c2])) W (.lst ws) = H7 at sW hM7 hE7 hN7 r7 hW7 ⊢
    refine ⟨W, rfl, ⟨_, SqL.of hW7⟩, for_list (K := K) (a := W) (xs := ws) (fun i σ H' => (∃ v7 v9 v10 v11, σ = [some (.ref a), some (.ref t), some (.ref N), some (.ref M), some (.ref E0), v5, v6, v7, some (.ref C), v9, v10, v11]) ∧ Same H7 H') ⟨⟨_, _, _, _, rfl⟩, Same.refl _⟩ (fun i σ H' _ hh => SqL.of (hh.2 _ _ hW7)) ?_ ?_⟩
    rotate_left
    · rintro σ H8 ⟨⟨v7, v9, v10, v11, rfl⟩, s8⟩
      exact q H8
    rintro i x σ H8 hi ⟨⟨v7, v9, v10, v11, rfl⟩, s8⟩
    obtain ⟨cut, rfl, hcut⟩ := cutAt i x hi
    have hM8 := s8 _ _ hM7
    have hE8 := s8 _ _ hE7
    have hN8 := s8 _ _ hN7
    have r8 := r7.mono s8
    refine ⟨_, rfl, N, _, rfl, .inl (SqL.of hN8), ((xs.length : Nat) : Int), rfl, by omega, by omega, fun R hR => lc_range (lo := 0) (n := xs.length) (fun i H' => H' R = some (.lst (xs.take (min i (fitN gs cut)))) ∧ Same H8 H') ⟨by rw [Nat.zero_min, List.take_zero]; exact upd_same, same_new hR _⟩ ?_ ?_⟩
    · rintro j H9 hj ⟨h9, s9⟩
      have hg : j < gs.length := by omega
      have fi := fit_iff gs cut j hg
      have ex : xs[j]? = some xs[j] := List.getElem?_eq_getElem hj
      generalize xs[j] = x0 at ex
      have e0 : (0 : Int) + (j : Nat) = (j : Nat) := by omega
      refine ⟨rfl, _, rfl, _, rfl, E0, _, _, _, rfl, rfl, SqL.of (s9 _ _ hE8), (by rw [e0]; exact atI_nat (by rw [List.getElem?_map, endsL_at gs hg]; rfl)), _, rfl, _, _, rfl, rfl, _, rfl, ?_⟩
      refine ifD (fun h => ?_) (fun h => ?_)
      · have hf := fi.mp (by omega)
        refine ⟨_, rfl, _, rfl, N, _, _, x0, rfl, rfl, SqL.of (s9 _ _ hN8), (by rw [e0]; exact atI_nat ex), _, h9, ?_, ?_, same_upd hR _ s9⟩
        · rw [List.length_take]; exact small1000 (by omega)
        · rw [upd_same, Nat.min_eq_left (by omega), Nat.min_eq_left (by omega), List.take_add_one, ex]; rfl
      · have hf : ¬ j < fitN gs cut := fun z => h (by have := fi.mpr z; omega)
        refine ⟨?_, s9⟩
        rw [Nat.min_eq_right (by omega)]
        rw [Nat.min_eq_right (by omega)] at h9
        exact h9
    rintro H9 ⟨h9, s9⟩
    have fl := fit_le gs cut
    rw [Nat.min_eq_right (by omega)] at h9
    obtain ⟨D9, r9, i9⟩ := (r8.mono s9).pre (fitN gs cut)
    refine ⟨_, rfl, _, rfl, _, rfl, M, _, rfl, SqL.of (s9 _ _ hM8), fun P hP => ?_⟩
    have ecut : cutV ((frL gs).map V.int) none (some (cut : Int)) = ((frL gs).take cut).map V.int := by rw [cut_front _ _ (by rw [List.length_map]; exact hcut), List.map_take]
    rw [ecut]
    have sP := same_new hP (.lst (((frL gs).take cut).map V.int))
    have hP10 : (upd H9 P (.lst (((frL gs).take cut).map V.int))) P = some (.lst (((frL gs).take cut).map V.int)) := upd_same
    generalize upd H9 P (.lst (((frL gs).take cut).map V.int)) = H10 at sP hP10 ⊢
    have okt : ∀ g ∈ gs.take (fitN gs cut), DOk 2 g := fun g hg => okg g (List.mem_of_mem_take hg)
    refine ⟨_, rfl, P, gs, cut, rfl, hP10, okg, l5, hcut, fun L ys D' H11 hL rL frL' nL L0 s11 => ?_⟩
    have h11 := s11 _ _ (sP _ _ h9)
    have r11 := r9.mono (sP.trans s11)
    have ly : ys.length ≤ 1000 := by have := rL.length; rw [normL_map, List.length_map, List.length_take] at this; omega
    refine ⟨_, rfl, .inl ⟨.ref L, .ref R, .l (normL (gs.take (fitN gs cut))), .l (gs.take (fitN gs cut)), L :: D', R :: D9, rfl, .l hL ly rL, .l h11 (by rw [List.length_take]; omega) r11, normL_geq okt, ?_, ?_, _, rfl, iteF ?_⟩⟩
    · intro b hb hb2
      have hb0 : H10 b = none := by
        rcases List.mem_cons.mp hb with rfl | hb
        · exact L0
        · exact frL' b hb
      rcases List.mem_cons.mp hb2 with rfl | hb2
      · have := sP _ _ h9; rw [hb0] at this; cases this
      · exact (r9.mono sP).there b hb2 hb0
    · simp only [G.dep]
      have := depL_le (n := 2) fun g hg => (okt g hg).dep
      omega
    have h11P := s11 _ _ hP10
    refine ⟨_, rfl, _, rfl, _, rfl, _, rfl, M, _, rfl, SqL.of ((sP.trans s11) _ _ (s9 _ _ hM8)), fun P2 hP2 => ?_⟩
    rw [ecut]
    have s12 := same_new hP2 (.lst (((frL gs).take cut).map V.int))
    refine ⟨_, _, .lst (SqL.of (s12 _ _ h11P)) (ints_dp _), .lst (SqL.of upd_same) (ints_dp _), ints_shaped _, ints_shaped _, _, rfl, ?_⟩
    rw [ints_eqv]
    exact iteF ⟨⟨_, _, _, _, rfl⟩, s8.trans (s9.trans (sP.trans (s11.trans s12)))⟩)
end
end Lt
namespace Lt
open PySem L2 TL
open C8 (pss_cut)
theorem all_mkF {l : PySem.W.OpenLaw} {w : World} {K : PySem.W.Frag} {h : Heap} {mg : Str → Option Value} {fa : Addr} (X : K.In h) (G : h.Ns mainGlobals mg) (hfa : mg "law" = some (.ref fa)) (c : He.SaysE faL fnL K) (ex : exL K = true)
    : ∃ fd : FuncData, (∀ (s : Shared) (v : Value), BindsTo s fd ⟨[v], []⟩ [("script", v)]) ∧ ∀ base : Heap, K.In base → base.Ns mainGlobals mg → FnOk l.prog w K mg base CX0 19 fa fd ["script"] (spLaw K) := by
  have a_law_tape := He.glo_ok X G (c.fact 0 (f := .glo "_law_tape") (by rfl))
  have a_law_take := He.glo_ok X G (c.fact 1 (f := .glo "_law_take") (by rfl))
  have a_law_char := He.glo_ok X G (c.fact 2 (f := .glo "_law_char") (by rfl))
  have a_law_text := He.glo_ok X G (c.fact 3 (f := .glo "_law_text") (by rfl))
  have a_law_string := He.glo_ok X G (c.fact 4 (f := .glo "_law_string") (by rfl))
  have a_law_number := He.glo_ok X G (c.fact 5 (f := .glo "_law_number") (by rfl))
  have a_law_data := He.glo_ok X G (c.fact 6 (f := .glo "_law_data") (by rfl))
  have a_law_bytes := He.glo_ok X G (c.fact 7 (f := .glo "_law_bytes") (by rfl))
  have a_law_codes := He.glo_ok X G (c.fact 8 (f := .glo "_law_codes") (by rfl))
  have a_law_pack := He.glo_ok X G (c.fact 9 (f := .glo "_law_pack") (by rfl))
  have a_law_is_integer := He.glo_ok X G (c.fact 10 (f := .glo "_law_is_integer") (by rfl))
  have a_law_same_items := He.glo_ok X G (c.fact 11 (f := .glo "_law_same_items") (by rfl))
  have a_law_same := He.glo_ok X G (c.fact 12 (f := .glo "_law_same") (by rfl))
  have a_number_bytes := He.glo_ok X G (c.fact 13 (f := .glo "number_bytes") (by rfl))
  have a_packed_number := He.glo_ok X G (c.fact 14 (f := .glo "packed_number") (by rfl))
  have a_packed_text := He.glo_ok X G (c.fact 15 (f := .glo "packed_text") (by rfl))
  have a_packed_items := He.glo_ok X G (c.fact 16 (f := .glo "packed_items") (by rfl))
  have a_packed_dict := He.glo_ok X G (c.fact 17 (f := .glo "packed_dict") (by rfl))
  have a_pack := He.glo_ok X G (c.fact 18 (f := .glo "pack") (by rfl))
  have a_frame := He.glo_ok X G (c.fact 19 (f := .glo "frame") (by rfl))
  have a_bytes_number := He.glo_ok X G (c.fact 20 (f := .glo "bytes_number") (by rfl))
  have a_read_number := He.glo_ok X G (c.fact 21 (f := .glo "read_number") (by rfl))
  have a_read_negative := He.glo_ok X G (c.fact 22 (f := .glo "read_negative") (by rfl))
  have a_is_text_code := He.glo_ok X G (c.fact 23 (f := .glo "is_text_code") (by rfl))
  have a_read_text := He.glo_ok X G (c.fact 24 (f := .glo "read_text") (by rfl))
  have a_may_follow := He.glo_ok X G (c.fact 25 (f := .glo "may_follow") (by rfl))
  have a_read_items := He.glo_ok X G (c.fact 26 (f := .glo "read_items") (by rfl))
  have a_read_dict := He.glo_ok X G (c.fact 27 (f := .glo "read_dict") (by rfl))
  have a_read_data := He.glo_ok X G (c.fact 28 (f := .glo "read_data") (by rfl))
  have a_unpack := He.glo_ok X G (c.fact 29 (f := .glo "unpack") (by rfl))
  have a_records_of := He.glo_ok X G (c.fact 30 (f := .glo "records_of") (by rfl))
  have a_law := He.glo_ok X G (c.fact 31 (f := .glo "law") (by rfl))
  have e := hfa.symm.trans a_law
  cases e
  obtain ⟨oc_law_tape, od_law_tape, sl_law_tape, kV_law_tape, dc_law_tape, pm_law_tape, an_law_tape, cd_law_tape, ct_law_tape, l_law_tape, c_law_tape⟩ := c.def_ 0 (d := dF_law_tape) (by rfl)
  have F_law_tape := fun_mk (st := s_law_tape) (x := "_law_tape") (qual := "_law_tape") (f := He.ga K "_law_tape") l_law_tape c_law_tape (He.keep_ok (c.fact 32 (f := .keep "_law_tape") (by rfl)))
  have b_law_tape := F_law_tape.binds (ps := ["script"]) fun _ _ _ _ _ _ us hl => match us, hl with | [_], _ => rfl
  have n_law_tape : Kn K mg "_law_tape" s_law_tape ["script"] (He.ga K "_law_tape") _ := ⟨F_law_tape, b_law_tape, a_law_tape⟩
  obtain ⟨oc_law_take, od_law_take, sl_law_take, kV_law_take, dc_law_take, pm_law_take, an_law_take, cd_law_take, ct_law_take, l_law_take, c_law_take⟩ := c.def_ 1 (d := dF_law_take) (by rfl)
  have F_law_take := fun_mk (st := s_law_take) (x := "_law_take") (qual := "_law_take") (f := He.ga K "_law_take") l_law_take c_law_take (He.keep_ok (c.fact 33 (f := .keep "_law_take") (by rfl)))
  have b_law_take := F_law_take.binds (ps := ["tape", "many"]) fun _ _ _ _ _ _ us hl => match us, hl with | [_, _], _ => rfl
  have n_law_take : Kn K mg "_law_take" s_law_take ["tape", "many"] (He.ga K "_law_take") _ := ⟨F_law_take, b_law_take, a_law_take⟩
  obtain ⟨oc_law_char, od_law_char, sl_law_char, kV_law_char, dc_law_char, pm_law_char, an_law_char, cd_law_char, ct_law_char, l_law_char, c_law_char⟩ := c.def_ 2 (d := dF_law_char) (by rfl)
  have F_law_char := fun_mk (st := s_law_char) (x := "_law_char") (qual := "_law_char") (f := He.ga K "_law_char") l_law_char c_law_char (He.keep_ok (c.fact 34 (f := .keep "_law_char") (by rfl)))
  have b_law_char := F_law_char.binds (ps := ["tape"]) fun _ _ _ _ _ _ us hl => match us, hl with | [_], _ => rfl
  have n_law_char : Kn K mg "_law_char" s_law_char ["tape"] (He.ga K "_law_char") _ := ⟨F_law_char, b_law_char, a_law_char⟩
  obtain ⟨oc_law_text, od_law_text, sl_law_text, kV_law_text, dc_law_text, pm_law_text, an_law_text, cd_law_text, ct_law_text, l_law_text, c_law_text⟩ := c.def_ 3 (d := dF_law_text) (by rfl)
  have F_law_text := fun_mk (st := s_law_text) (x := "_law_text") (qual := "_law_text") (f := He.ga K "_law_text") l_law_text c_law_text (He.keep_ok (c.fact 35 (f := .keep "_law_text") (by rfl)))
  have b_law_text := F_law_text.binds (ps := ["tape"]) fun _ _ _ _ _ _ us hl => match us, hl with | [_], _ => rfl
  have n_law_text : Kn K mg "_law_text" s_law_text ["tape"] (He.ga K "_law_text") _ := ⟨F_law_text, b_law_text, a_law_text⟩
  obtain ⟨oc_law_string, od_law_string, sl_law_string, kV_law_string, dc_law_string, pm_law_string, an_law_string, cd_law_string, ct_law_string, l_law_string, c_law_string⟩ := c.def_ 4 (d := dF_law_string) (by rfl)
  have F_law_string := fun_mk (st := s_law_string) (x := "_law_string") (qual := "_law_string") (f := He.ga K "_law_string") l_law_string c_law_string (He.keep_ok (c.fact 36 (f := .keep "_law_string") (by rfl)))
  have b_law_string := F_law_string.binds (ps := ["tape"]) fun _ _ _ _ _ _ us hl => match us, hl with | [_], _ => rfl
  have n_law_string : Kn K mg "_law_string" s_law_string ["tape"] (He.ga K "_law_string") _ := ⟨F_law_string, b_law_string, a_law_string⟩
  obtain ⟨oc_law_number, od_law_number, sl_law_number, kV_law_number, dc_law_number, pm_law_number, an_law_number, cd_law_number, ct_law_number, l_law_number, c_law_number⟩ := c.def_ 5 (d := dF_law_number) (by rfl)
  have F_law_number := fun_mk (st := s_law_number) (x := "_law_number") (qual := "_law_number") (f := He.ga K "_law_number") l_law_number c_law_number (He.keep_ok (c.fact 37 (f := .keep "_law_number") (by rfl)))
  have b_law_number := F_law_number.binds (ps := ["tape"]) fun _ _ _ _ _ _ us hl => match us, hl with | [_], _ => rfl
  have n_law_number : Kn K mg "_law_number" s_law_number ["tape"] (He.ga K "_law_number") _ := ⟨F_law_number, b_law_number, a_law_number⟩
  obtain ⟨oc_law_data, od_law_data, sl_law_data, kV_law_data, dc_law_data, pm_law_data, an_law_data, cd_law_data, ct_law_data, l_law_data, c_law_data⟩ := c.def_ 6 (d := dF_law_data) (by rfl)
  have F_law_data := fun_mk (st := s_law_data) (x := "_law_data") (qual := "_law_data") (f := He.ga K "_law_data") l_law_data c_law_data (He.keep_ok (c.fact 38 (f := .keep "_law_data") (by rfl)))
  have b_law_data := F_law_data.binds (ps := ["tape", "depth"]) fun _ _ _ _ _ _ us hl => match us, hl with | [_, _], _ => rfl
  have n_law_data : Kn K mg "_law_data" s_law_data ["tape", "depth"] (He.ga K "_law_data") _ := ⟨F_law_data, b_law_data, a_law_data⟩
  obtain ⟨oc_law_bytes, od_law_bytes, sl_law_bytes, kV_law_bytes, dc_law_bytes, pm_law_bytes, an_law_bytes, cd_law_bytes, ct_law_bytes, l_law_bytes, c_law_bytes⟩ := c.def_ 7 (d := dF_law_bytes) (by rfl)
  have F_law_bytes := fun_mk (st := s_law_bytes) (x := "_law_bytes") (qual := "_law_bytes") (f := He.ga K "_law_bytes") l_law_bytes c_law_bytes (He.keep_ok (c.fact 39 (f := .keep "_law_bytes") (by rfl)))
  have b_law_bytes := F_law_bytes.binds (ps := ["number", "size"]) fun _ _ _ _ _ _ us hl => match us, hl with | [_, _], _ => rfl
  have n_law_bytes : Kn K mg "_law_bytes" s_law_bytes ["number", "size"] (He.ga K "_law_bytes") _ := ⟨F_law_bytes, b_law_bytes, a_law_bytes⟩
  obtain ⟨oc_law_codes, od_law_codes, sl_law_codes, kV_law_codes, dc_law_codes, pm_law_codes, an_law_codes, cd_law_codes, ct_law_codes, l_law_codes, c_law_codes⟩ := c.def_ 8 (d := dF_law_codes) (by rfl)
  have F_law_codes := fun_mk (st := s_law_codes) (x := "_law_codes") (qual := "_law_codes") (f := He.ga K "_law_codes") l_law_codes c_law_codes (He.keep_ok (c.fact 40 (f := .keep "_law_codes") (by rfl)))
  have b_law_codes := F_law_codes.binds (ps := ["text"]) fun _ _ _ _ _ _ us hl => match us, hl with | [_], _ => rfl
  have n_law_codes : Kn K mg "_law_codes" s_law_codes ["text"] (He.ga K "_law_codes") _ := ⟨F_law_codes, b_law_codes, a_law_codes⟩
  obtain ⟨oc_law_pack, od_law_pack, sl_law_pack, kV_law_pack, dc_law_pack, pm_law_pack, an_law_pack, cd_law_pack, ct_law_pack, l_law_pack, c_law_pack⟩ := c.def_ 9 (d := dF_law_pack) (by rfl)
  have F_law_pack := fun_mk (st := s_law_pack) (x := "_law_pack") (qual := "_law_pack") (f := He.ga K "_law_pack") l_law_pack c_law_pack (He.keep_ok (c.fact 41 (f := .keep "_law_pack") (by rfl)))
  have b_law_pack := F_law_pack.binds (ps := ["data"]) fun _ _ _ _ _ _ us hl => match us, hl with | [_], _ => rfl
  have n_law_pack : Kn K mg "_law_pack" s_law_pack ["data"] (He.ga K "_law_pack") _ := ⟨F_law_pack, b_law_pack, a_law_pack⟩
  obtain ⟨oc_law_is_integer, od_law_is_integer, sl_law_is_integer, kV_law_is_integer, dc_law_is_integer, pm_law_is_integer, an_law_is_integer, cd_law_is_integer, ct_law_is_integer, l_law_is_integer, c_law_is_integer⟩ := c.def_ 10 (d := dF_law_is_integer) (by rfl)
  have F_law_is_integer := fun_mk (st := s_law_is_integer) (x := "_law_is_integer") (qual := "_law_is_integer") (f := He.ga K "_law_is_integer") l_law_is_integer c_law_is_integer (He.keep_ok (c.fact 42 (f := .keep "_law_is_integer") (by rfl)))
  have b_law_is_integer := F_law_is_integer.binds (ps := ["actual"]) fun _ _ _ _ _ _ us hl => match us, hl with | [_], _ => rfl
  have n_law_is_integer : Kn K mg "_law_is_integer" s_law_is_integer ["actual"] (He.ga K "_law_is_integer") _ := ⟨F_law_is_integer, b_law_is_integer, a_law_is_integer⟩
  obtain ⟨oc_law_same_items, od_law_same_items, sl_law_same_items, kV_law_same_items, dc_law_same_items, pm_law_same_items, an_law_same_items, cd_law_same_items, ct_law_same_items, l_law_same_items, c_law_same_items⟩ := c.def_ 11 (d := dF_law_same_items) (by rfl)
  have F_law_same_items := fun_mk (st := s_law_same_items) (x := "_law_same_items") (qual := "_law_same_items") (f := He.ga K "_law_same_items") l_law_same_items c_law_same_items (He.keep_ok (c.fact 43 (f := .keep "_law_same_items") (by rfl)))
  have b_law_same_items := F_law_same_items.binds (ps := ["actual", "expected"]) fun _ _ _ _ _ _ us hl => match us, hl with | [_, _], _ => rfl
  have n_law_same_items : Kn K mg "_law_same_items" s_law_same_items ["actual", "expected"] (He.ga K "_law_same_items") _ := ⟨F_law_same_items, b_law_same_items, a_law_same_items⟩
  obtain ⟨oc_law_same, od_law_same, sl_law_same, kV_law_same, dc_law_same, pm_law_same, an_law_same, cd_law_same, ct_law_same, l_law_same, c_law_same⟩ := c.def_ 12 (d := dF_law_same) (by rfl)
  have F_law_same := fun_mk (st := s_law_same) (x := "_law_same") (qual := "_law_same") (f := He.ga K "_law_same") l_law_same c_law_same (He.keep_ok (c.fact 44 (f := .keep "_law_same") (by rfl)))
  have b_law_same := F_law_same.binds (ps := ["actual", "expected"]) fun _ _ _ _ _ _ us hl => match us, hl with | [_, _], _ => rfl
  have n_law_same : Kn K mg "_law_same" s_law_same ["actual", "expected"] (He.ga K "_law_same") _ := ⟨F_law_same, b_law_same, a_law_same⟩
  obtain ⟨oc_number_bytes, od_number_bytes, sl_number_bytes, kV_number_bytes, dc_number_bytes, pm_number_bytes, an_number_bytes, cd_number_bytes, ct_number_bytes, l_number_bytes, c_number_bytes⟩ := c.def_ 13 (d := dF_number_bytes) (by rfl)
  have F_number_bytes := fun_mk (st := s_number_bytes) (x := "number_bytes") (qual := "number_bytes") (f := He.ga K "number_bytes") l_number_bytes c_number_bytes (He.keep_ok (c.fact 45 (f := .keep "number_bytes") (by rfl)))
  have b_number_bytes := F_number_bytes.binds (ps := ["number", "many"]) fun _ _ _ _ _ _ us hl => match us, hl with | [_, _], _ => rfl
  have n_number_bytes : Kn K mg "number_bytes" s_number_bytes ["number", "many"] (He.ga K "number_bytes") _ := ⟨F_number_bytes, b_number_bytes, a_number_bytes⟩
  obtain ⟨oc_packed_number, od_packed_number, sl_packed_number, kV_packed_number, dc_packed_number, pm_packed_number, an_packed_number, cd_packed_number, ct_packed_number, l_packed_number, c_packed_number⟩ := c.def_ 14 (d := dF_packed_number) (by rfl)
  have F_packed_number := fun_mk (st := s_packed_number) (x := "packed_number") (qual := "packed_number") (f := He.ga K "packed_number") l_packed_number c_packed_number (He.keep_ok (c.fact 46 (f := .keep "packed_number") (by rfl)))
  have b_packed_number := F_packed_number.binds (ps := ["number"]) fun _ _ _ _ _ _ us hl => match us, hl with | [_], _ => rfl
  have n_packed_number : Kn K mg "packed_number" s_packed_number ["number"] (He.ga K "packed_number") _ := ⟨F_packed_number, b_packed_number, a_packed_number⟩
  obtain ⟨oc_packed_text, od_packed_text, sl_packed_text, kV_packed_text, dc_packed_text, pm_packed_text, an_packed_text, cd_packed_text, ct_packed_text, l_packed_text, c_packed_text⟩ := c.def_ 15 (d := dF_packed_text) (by rfl)
  have F_packed_text := fun_mk (st := s_packed_text) (x := "packed_text") (qual := "packed_text") (f := He.ga K "packed_text") l_packed_text c_packed_text (He.keep_ok (c.fact 47 (f := .keep "packed_text") (by rfl)))
  have b_packed_text := F_packed_text.binds (ps := ["text"]) fun _ _ _ _ _ _ us hl => match us, hl with | [_], _ => rfl
  have n_packed_text : Kn K mg "packed_text" s_packed_text ["text"] (He.ga K "packed_text") _ := ⟨F_packed_text, b_packed_text, a_packed_text⟩
  obtain ⟨oc_packed_items, od_packed_items, sl_packed_items, kV_packed_items, dc_packed_items, pm_packed_items, an_packed_items, cd_packed_items, ct_packed_items, l_packed_items, c_packed_items⟩ := c.def_ 16 (d := dF_packed_items) (by rfl)
  have F_packed_items := fun_mk (st := s_packed_items) (x := "packed_items") (qual := "packed_items") (f := He.ga K "packed_items") l_packed_items c_packed_items (He.keep_ok (c.fact 48 (f := .keep "packed_items") (by rfl)))
  have b_packed_items := F_packed_items.binds (ps := ["first", "items"]) fun _ _ _ _ _ _ us hl => match us, hl with | [_, _], _ => rfl
  have n_packed_items : Kn K mg "packed_items" s_packed_items ["first", "items"] (He.ga K "packed_items") _ := ⟨F_packed_items, b_packed_items, a_packed_items⟩
  obtain ⟨oc_packed_dict, od_packed_dict, sl_packed_dict, kV_packed_dict, dc_packed_dict, pm_packed_dict, an_packed_dict, cd_packed_dict, ct_packed_dict, l_packed_dict, c_packed_dict⟩ := c.def_ 17 (d := dF_packed_dict) (by rfl)
  have F_packed_dict := fun_mk (st := s_packed_dict) (x := "packed_dict") (qual := "packed_dict") (f := He.ga K "packed_dict") l_packed_dict c_packed_dict (He.keep_ok (c.fact 49 (f := .keep "packed_dict") (by rfl)))
  have b_packed_dict := F_packed_dict.binds (ps := ["table"]) fun _ _ _ _ _ _ us hl => match us, hl with | [_], _ => rfl
  have n_packed_dict : Kn K mg "packed_dict" s_packed_dict ["table"] (He.ga K "packed_dict") _ := ⟨F_packed_dict, b_packed_dict, a_packed_dict⟩
  obtain ⟨oc_pack, od_pack, sl_pack, kV_pack, dc_pack, pm_pack, an_pack, cd_pack, ct_pack, l_pack, c_pack⟩ := c.def_ 18 (d := dF_pack) (by rfl)
  have F_pack := fun_mk (st := s_pack) (x := "pack") (qual := "pack") (f := He.ga K "pack") l_pack c_pack (He.keep_ok (c.fact 50 (f := .keep "pack") (by rfl)))
  have b_pack := F_pack.binds (ps := ["data"]) fun _ _ _ _ _ _ us hl => match us, hl with | [_], _ => rfl
  have n_pack : Kn K mg "pack" s_pack ["data"] (He.ga K "pack") _ := ⟨F_pack, b_pack, a_pack⟩
  obtain ⟨oc_frame, od_frame, sl_frame, kV_frame, dc_frame, pm_frame, an_frame, cd_frame, ct_frame, l_frame, c_frame⟩ := c.def_ 19 (d := dF_frame) (by rfl)
  have F_frame := fun_mk (st := s_frame) (x := "frame") (qual := "frame") (f := He.ga K "frame") l_frame c_frame (He.keep_ok (c.fact 51 (f := .keep "frame") (by rfl)))
  have b_frame := F_frame.binds (ps := ["record"]) fun _ _ _ _ _ _ us hl => match us, hl with | [_], _ => rfl
  have n_frame : Kn K mg "frame" s_frame ["record"] (He.ga K "frame") _ := ⟨F_frame, b_frame, a_frame⟩
  obtain ⟨oc_bytes_number, od_bytes_number, sl_bytes_number, kV_bytes_number, dc_bytes_number, pm_bytes_number, an_bytes_number, cd_bytes_number, ct_bytes_number, l_bytes_number, c_bytes_number⟩ := c.def_ 20 (d := dF_bytes_number) (by rfl)
  have F_bytes_number := fun_mk (st := s_bytes_number) (x := "bytes_number") (qual := "bytes_number") (f := He.ga K "bytes_number") l_bytes_number c_bytes_number (He.keep_ok (c.fact 52 (f := .keep "bytes_number") (by rfl)))
  have b_bytes_number := F_bytes_number.binds (ps := ["numbers"]) fun _ _ _ _ _ _ us hl => match us, hl with | [_], _ => rfl
  have n_bytes_number : Kn K mg "bytes_number" s_bytes_number ["numbers"] (He.ga K "bytes_number") _ := ⟨F_bytes_number, b_bytes_number, a_bytes_number⟩
  obtain ⟨oc_read_number, od_read_number, sl_read_number, kV_read_number, dc_read_number, pm_read_number, an_read_number, cd_read_number, ct_read_number, l_read_number, c_read_number⟩ := c.def_ 21 (d := dF_read_number) (by rfl)
  have F_read_number := fun_mk (st := s_read_number) (x := "read_number") (qual := "read_number") (f := He.ga K "read_number") l_read_number c_read_number (He.keep_ok (c.fact 53 (f := .keep "read_number") (by rfl)))
  have b_read_number := F_read_number.binds (ps := ["numbers", "at", "many"]) fun _ _ _ _ _ _ us hl => match us, hl with | [_, _, _], _ => rfl
  have n_read_number : Kn K mg "read_number" s_read_number ["numbers", "at", "many"] (He.ga K "read_number") _ := ⟨F_read_number, b_read_number, a_read_number⟩
  obtain ⟨oc_read_negative, od_read_negative, sl_read_negative, kV_read_negative, dc_read_negative, pm_read_negative, an_read_negative, cd_read_negative, ct_read_negative, l_read_negative, c_read_negative⟩ := c.def_ 22 (d := dF_read_negative) (by rfl)
  have F_read_negative := fun_mk (st := s_read_negative) (x := "read_negative") (qual := "read_negative") (f := He.ga K "read_negative") l_read_negative c_read_negative (He.keep_ok (c.fact 54 (f := .keep "read_negative") (by rfl)))
  have b_read_negative := F_read_negative.binds (ps := ["numbers", "at"]) fun _ _ _ _ _ _ us hl => match us, hl with | [_, _], _ => rfl
  have n_read_negative : Kn K mg "read_negative" s_read_negative ["numbers", "at"] (He.ga K "read_negative") _ := ⟨F_read_negative, b_read_negative, a_read_negative⟩
  obtain ⟨oc_is_text_code, od_is_text_code, sl_is_text_code, kV_is_text_code, dc_is_text_code, pm_is_text_code, an_is_text_code, cd_is_text_code, ct_is_text_code, l_is_text_code, c_is_text_code⟩ := c.def_ 23 (d := dF_is_text_code) (by rfl)
  have F_is_text_code := fun_mk (st := s_is_text_code) (x := "is_text_code") (qual := "is_text_code") (f := He.ga K "is_text_code") l_is_text_code c_is_text_code (He.keep_ok (c.fact 55 (f := .keep "is_text_code") (by rfl)))
  have b_is_text_code := F_is_text_code.binds (ps := ["code"]) fun _ _ _ _ _ _ us hl => match us, hl with | [_], _ => rfl
  have n_is_text_code : Kn K mg "is_text_code" s_is_text_code ["code"] (He.ga K "is_text_code") _ := ⟨F_is_text_code, b_is_text_code, a_is_text_code⟩
  obtain ⟨oc_read_text, od_read_text, sl_read_text, kV_read_text, dc_read_text, pm_read_text, an_read_text, cd_read_text, ct_read_text, l_read_text, c_read_text⟩ := c.def_ 24 (d := dF_read_text) (by rfl)
  have F_read_text := fun_mk (st := s_read_text) (x := "read_text") (qual := "read_text") (f := He.ga K "read_text") l_read_text c_read_text (He.keep_ok (c.fact 56 (f := .keep "read_text") (by rfl)))
  have b_read_text := F_read_text.binds (ps := ["numbers", "at"]) fun _ _ _ _ _ _ us hl => match us, hl with | [_, _], _ => rfl
  have n_read_text : Kn K mg "read_text" s_read_text ["numbers", "at"] (He.ga K "read_text") _ := ⟨F_read_text, b_read_text, a_read_text⟩
  obtain ⟨oc_may_follow, od_may_follow, sl_may_follow, kV_may_follow, dc_may_follow, pm_may_follow, an_may_follow, cd_may_follow, ct_may_follow, l_may_follow, c_may_follow⟩ := c.def_ 25 (d := dF_may_follow) (by rfl)
  have F_may_follow := fun_mk (st := s_may_follow) (x := "may_follow") (qual := "may_follow") (f := He.ga K "may_follow") l_may_follow c_may_follow (He.keep_ok (c.fact 57 (f := .keep "may_follow") (by rfl)))
  have b_may_follow := F_may_follow.binds (ps := ["key", "before"]) fun _ _ _ _ _ _ us hl => match us, hl with | [_, _], _ => rfl
  have n_may_follow : Kn K mg "may_follow" s_may_follow ["key", "before"] (He.ga K "may_follow") _ := ⟨F_may_follow, b_may_follow, a_may_follow⟩
  obtain ⟨oc_read_items, od_read_items, sl_read_items, kV_read_items, dc_read_items, pm_read_items, an_read_items, cd_read_items, ct_read_items, l_read_items, c_read_items⟩ := c.def_ 26 (d := dF_read_items) (by rfl)
  have F_read_items := fun_mk (st := s_read_items) (x := "read_items") (qual := "read_items") (f := He.ga K "read_items") l_read_items c_read_items (He.keep_ok (c.fact 58 (f := .keep "read_items") (by rfl)))
  have b_read_items := F_read_items.binds (ps := ["numbers", "at"]) fun _ _ _ _ _ _ us hl => match us, hl with | [_, _], _ => rfl
  have n_read_items : Kn K mg "read_items" s_read_items ["numbers", "at"] (He.ga K "read_items") _ := ⟨F_read_items, b_read_items, a_read_items⟩
  obtain ⟨oc_read_dict, od_read_dict, sl_read_dict, kV_read_dict, dc_read_dict, pm_read_dict, an_read_dict, cd_read_dict, ct_read_dict, l_read_dict, c_read_dict⟩ := c.def_ 27 (d := dF_read_dict) (by rfl)
  have F_read_dict := fun_mk (st := s_read_dict) (x := "read_dict") (qual := "read_dict") (f := He.ga K "read_dict") l_read_dict c_read_dict (He.keep_ok (c.fact 59 (f := .keep "read_dict") (by rfl)))
  have b_read_dict := F_read_dict.binds (ps := ["numbers", "at"]) fun _ _ _ _ _ _ us hl => match us, hl with | [_, _], _ => rfl
  have n_read_dict : Kn K mg "read_dict" s_read_dict ["numbers", "at"] (He.ga K "read_dict") _ := ⟨F_read_dict, b_read_dict, a_read_dict⟩
  obtain ⟨oc_read_data, od_read_data, sl_read_data, kV_read_data, dc_read_data, pm_read_data, an_read_data, cd_read_data, ct_read_data, l_read_data, c_read_data⟩ := c.def_ 28 (d := dF_read_data) (by rfl)
  have F_read_data := fun_mk (st := s_read_data) (x := "read_data") (qual := "read_data") (f := He.ga K "read_data") l_read_data c_read_data (He.keep_ok (c.fact 60 (f := .keep "read_data") (by rfl)))
  have b_read_data := F_read_data.binds (ps := ["numbers", "at"]) fun _ _ _ _ _ _ us hl => match us, hl with | [_, _], _ => rfl
  have n_read_data : Kn K mg "read_data" s_read_data ["numbers", "at"] (He.ga K "read_data") _ := ⟨F_read_data, b_read_data, a_read_data⟩
  obtain ⟨oc_unpack, od_unpack, sl_unpack, kV_unpack, dc_unpack, pm_unpack, an_unpack, cd_unpack, ct_unpack, l_unpack, c_unpack⟩ := c.def_ 29 (d := dF_unpack) (by rfl)
  have F_unpack := fun_mk (st := s_unpack) (x := "unpack") (qual := "unpack") (f := He.ga K "unpack") l_unpack c_unpack (He.keep_ok (c.fact 61 (f := .keep "unpack") (by rfl)))
  have b_unpack := F_unpack.binds (ps := ["numbers"]) fun _ _ _ _ _ _ us hl => match us, hl with | [_], _ => rfl
  have n_unpack : Kn K mg "unpack" s_unpack ["numbers"] (He.ga K "unpack") _ := ⟨F_unpack, b_unpack, a_unpack⟩
  obtain ⟨oc_records_of, od_records_of, sl_records_of, kV_records_of, dc_records_of, pm_records_of, an_records_of, cd_records_of, ct_records_of, l_records_of, c_records_of⟩ := c.def_ 30 (d := dF_records_of) (by rfl)
  have F_records_of := fun_mk (st := s_records_of) (x := "records_of") (qual := "records_of") (f := He.ga K "records_of") l_records_of c_records_of (He.keep_ok (c.fact 62 (f := .keep "records_of") (by rfl)))
  have b_records_of := F_records_of.binds (ps := ["numbers"]) fun _ _ _ _ _ _ us hl => match us, hl with | [_], _ => rfl
  have n_records_of : Kn K mg "records_of" s_records_of ["numbers"] (He.ga K "records_of") _ := ⟨F_records_of, b_records_of, a_records_of⟩
  obtain ⟨oc_law, od_law, sl_law, kV_law, dc_law, pm_law, an_law, cd_law, ct_law, l_law, c_law⟩ := c.def_ 31 (d := dF_law) (by rfl)
  have F_law := fun_mk (st := s_law) (x := "law") (qual := "law") (f := He.ga K "law") l_law c_law (He.keep_ok (c.fact 63 (f := .keep "law") (by rfl)))
  have b_law := F_law.binds (ps := ["script"]) fun _ _ _ _ _ _ us hl => match us, hl with | [_], _ => rfl
  have n_law : Kn K mg "law" s_law ["script"] (He.ga K "law") _ := ⟨F_law, b_law, a_law⟩
  unfold exL at ex
  have z : Z mg := ⟨He.free_ok X G (c.fact 64 (f := .free "abs") (by rfl)), He.free_ok X G (c.fact 65 (f := .free "int") (by rfl)), He.free_ok X G (c.fact 66 (f := .free "len") (by rfl)), He.free_ok X G (c.fact 67 (f := .free "range") (by rfl)), He.free_ok X G (c.fact 68 (f := .free "tuple") (by rfl)), He.free_ok X G (c.fact 69 (f := .free "isinstance") (by rfl)), He.free_ok X G (c.fact 70 (f := .free "bool") (by rfl)), He.free_ok X G (c.fact 71 (f := .free "str") (by rfl)), He.free_ok X G (c.fact 72 (f := .free "list") (by rfl)), He.free_ok X G (c.fact 73 (f := .free "dict") (by rfl)), He.free_ok X G (c.fact 74 (f := .free "sorted") (by rfl)), He.free_ok X G (c.fact 75 (f := .free "reversed") (by rfl)), He.free_ok X G (c.fact 76 (f := .free "ord") (by rfl)), He.free_ok X G (c.fact 77 (f := .free "enumerate") (by rfl)), He.int_ok X G (c.fact 78 (f := .int "NEGATIVE" 4) (by rfl)), He.int_ok X G (c.fact 79 (f := .int "NUMBER_BYTES" 4) (by rfl)), He.int_ok X G (c.fact 80 (f := .int "NUMBER" 3) (by rfl)), He.int_ok X G (c.fact 81 (f := .int "TEXT" 5) (by rfl)), He.int_ok X G (c.fact 82 (f := .int "LENGTH_BYTES" 2) (by rfl)), He.int_ok X G (c.fact 83 (f := .int "DICT" 8) (by rfl)), He.int_ok X G (c.fact 84 (f := .int "NULL" 0) (by rfl)), He.int_ok X G (c.fact 85 (f := .int "TRUE" 2) (by rfl)), He.int_ok X G (c.fact 86 (f := .int "FALSE" 1) (by rfl)), He.int_ok X G (c.fact 87 (f := .int "TUPLE" 6) (by rfl)), He.int_ok X G (c.fact 88 (f := .int "LIST" 7) (by rfl)), He.int_ok X G (c.fact 89 (f := .int "HEAD_BYTES" 4) (by rfl)), He.int_ok X G (c.fact 90 (f := .int "PERCENT_CODE" 37) (by rfl)), He.int_ok X G (c.fact 91 (f := .int "LAST_CODE" 126) (by rfl)), He.int_ok X G (c.fact 92 (f := .int "FIRST_CODE" 32) (by rfl)), He.str_ok X G (c.fact 93 (f := .str "CHARACTERS" " !\"#$ &'()*+,-./0123456789:;<=>?@ABCDEFGHIJKLMNOPQRSTUVWXYZ[\\]^_`abcdefghijklmnopqrstuvwxyz{|}~") (by rfl))⟩
  refine ⟨PySem.W.fnOf "law" "law" (defArgs s_law) (defBody s_law) (defScope s_law) .none kV_law dc_law pm_law an_law cd_law ct_law, fun s v => .of_eq rfl, fun base _ _ => ?_⟩
  have o_law_tape := ok_law_tape (P := l.prog) (w := w) (base := base) n_law_tape z 
  have o_law_take := ok_law_take (P := l.prog) (w := w) (base := base) n_law_take z 
  have o_law_char := ok_law_char (P := l.prog) (w := w) (base := base) n_law_char z o_law_take
  have o_law_text := ok_law_text (P := l.prog) (w := w) (base := base) n_law_text z o_law_take o_law_char
  have o_law_string := ok_law_string (P := l.prog) (w := w) (base := base) n_law_string z o_law_text o_law_take
  have o_law_number := ok_law_number (P := l.prog) (w := w) (base := base) n_law_number z o_law_take
  have o_law_data := ok_law_datas (P := l.prog) (w := w) (base := base) n_law_data z o_law_take o_law_string o_law_number 3
  have o_law_bytes := ok_law_bytes (P := l.prog) (w := w) (base := base) n_law_bytes z 
  have o_law_codes := ok_law_codes (P := l.prog) (w := w) (base := base) n_law_codes z 
  have o_law_pack := ok_law_lpacks (P := l.prog) (w := w) (base := base) n_law_pack z o_law_bytes o_law_codes 5
  have o_law_is_integer := ok_law_is_integer (P := l.prog) (w := w) (base := base) n_law_is_integer z 
  have _ := True.intro
  have o_law_same := ok_law_same (P := l.prog) (w := w) (base := base) n_law_same n_law_same_items z o_law_is_integer 9
  have o_number_bytes := ok_number_bytes (P := l.prog) (w := w) (base := base) n_number_bytes z 
  have o_packed_number := ok_packed_number (P := l.prog) (w := w) (base := base) n_packed_number z o_number_bytes
  have o_packed_text := ok_packed_text (P := l.prog) (w := w) (base := base) n_packed_text z o_number_bytes
  have _ := True.intro
  have _ := True.intro
  have o_pack := ok_law_packs (P := l.prog) (w := w) (base := base) n_pack n_packed_items n_packed_dict z o_number_bytes o_packed_number o_packed_text 5
  have o_frame := ok_frame (P := l.prog) (w := w) (base := base) n_frame z o_pack o_number_bytes
  have o_bytes_number := ok_bytes_number (P := l.prog) (w := w) (base := base) n_bytes_number z 
  have o_read_number := ok_read_number (P := l.prog) (w := w) (base := base) n_read_number z o_bytes_number
  have o_read_negative := ok_read_negative (P := l.prog) (w := w) (base := base) n_read_negative z o_read_number
  have o_is_text_code := ok_is_text_code (P := l.prog) (w := w) (base := base) n_is_text_code z 
  have o_read_text := ok_read_text (P := l.prog) (w := w) (base := base) n_read_text z o_read_number o_is_text_code
  have o_may_follow := ok_may_follow (P := l.prog) (w := w) (base := base) n_may_follow z 
  have _ := True.intro
  have _ := True.intro
  have o_read_data := ok_read_datas (P := l.prog) (w := w) (base := base) n_read_data n_read_items n_read_dict z o_read_number o_read_negative o_read_text o_may_follow 4
  have o_unpack := ok_unpack (P := l.prog) (w := w) (base := base) n_unpack z o_read_data
  have o_records_of := ok_records_of (P := l.prog) (w := w) (base := base) n_records_of z o_bytes_number o_unpack
  have o_law := ok_law (P := l.prog) (w := w) (base := base) n_law z o_law_tape o_law_take o_law_data o_law_pack o_law_bytes o_law_same o_frame o_records_of
  exact o_law.G
end Lt
open PySem PySem.W PySem.Calls PyProof.Rows
set_option maxRecDepth 100000 in
set_option maxHeartbeats 0 in
theorem PySem.Challenge.cw_lenstree_k42_frames_and_records_holds : PySem.Challenge.rw_lenstree_k42_frames_and_records.Holds := by
  w_on; o_law
  refine HandSHeadRun.head_any (r := OpenLaw.row PySem.Challenge.rw_lenstree_k42_frames_and_records) (q := view (OpenLaw.row PySem.Challenge.rw_lenstree_k42_frames_and_records).prog [57]) (H := Lt.hkL) (ob := Lt.obN) (M := 20000) (loose := Lt.looseL) (d := HandSHeadRun.topDef (OpenLaw.row PySem.Challenge.rw_lenstree_k42_frames_and_records).prog 57) (kwd := []) Lt.obN_eq (by kernel_rfl) (fun s => by kernel_rfl) Lt.runL (by kernel_rfl) (by kernel_rfl) (by kernel_rfl) (by rfl) (by first | assumption | decide +kernel) (by decide +kernel) ⟨rfl, rfl, rfl, rfl, rfl, by decide +kernel⟩ ?hw ?hc
  case hw => w_witness2
  case hc =>
    refine L2.walk_ofE (l := PySem.Challenge.rw_lenstree_k42_frames_and_records) (n := 63) (k := 19) (x := "script") (CX := L2.CX0) rfl (by decide) (by kernel_rfl) ⟨rfl, by decide, by decide⟩ ?F (fun _ _ _ _ z => z)
    intro w mg fa h Y G hmg0
    obtain ⟨K, KX, c, ex⟩ := Y
    have hmg : mg ("law" : PySem.Str) = some (.ref fa) := by
      have e : (HandSHeadRun.topDef (OpenLaw.row PySem.Challenge.rw_lenstree_k42_frames_and_records).prog 57).name = ("law" : PySem.Str) := by kernel_rfl
      rw [← e]
      exact hmg0
    obtain ⟨fd, hb, hF⟩ := Lt.all_mkF (l := PySem.Challenge.rw_lenstree_k42_frames_and_records) (w := w) KX G hmg c ex
    exact ⟨K, fd, Lt.spLaw K, KX, hb, fun H a ns hl _ hS => ⟨a, ns, rfl, hS, hl, fun _ => rfl⟩, hF⟩
#print axioms PySem.Challenge.cw_lenstree_k42_frames_and_records_holds
