import PyProof.Rows.All
import Wide.All
import OpenK.AllK
import Wide.FinOn
import HandS.ForMost
import HandS.TupAny
import HandS.Style
import HandS.IsInst
import HandS.Star
import HandS.RevRange
import HandS.Wide
import HandS.Conv
import PyProof.StrOps2
import HandS.Evl
import HandS.CallLocal
import HandS.Comp
import PyProof.StrLaws
import PySem.Challenge.RW_whatnext_k30_which_are_laid
set_option Elab.async false
set_option maxRecDepth 100000
set_option maxHeartbeats 8000000
set_option linter.unusedVariables false
namespace KB
open PySem L2
open PySem.AutoSeq1 PySem.MeetsSeq PySem.MeetsSeq2 PySem.MeetsSeq3

def top (i : Nat) : Stmt := (PySem.Challenge.pw_whatnext_k30_which_are_laid).main.body.getD i (.Pass ⟨0, 0, 0, 0⟩)

/-! ### two rules that the layer lacks: a list extended by a tuple, a text times a number -/
theorem ext_lt (l b : Addr) (us ws : Array Value) (n m : Nat) (dd : Option Addr) (sl : Array (Option Value))
    (h0 : ¬(!us.isEmpty && Builtin.List.listTooLong (us.size + ws.size)) = true) (h1 : us.size ≤ sizeLine) (h2 : us.size + ws.size ≤ sizeLine + 1) :
    Meets (Builtin.«list.extend» ⟨[.ref l, .ref b], []⟩) (fun _ R s => s.heap.get? l = some { cls := .type "list", dict := none, data := .seq us n, slots := #[] } ∧
      s.heap.get? b = some { cls := .type "tuple", dict := dd, data := .seq ws m, slots := sl } ∧
      R (.ok (.ret Value.none)) { s with heap := s.heap.update l (Obj.mapSeq fun x => x ++ ws), toks := s.toks }) := by
  refine .of_wp fun prog w A R s h => ?_
  obtain ⟨hp, g, d, tk, os⟩ := s
  obtain ⟨hl, hb, h⟩ := h
  have f1 := idx_int; have f2 := sub_tuple_tuple; have f3 := sub_list_list; have f4 := sub_tuple_list; have f5 := sub_list_tuple
  have hz' : (us ++ ws).size ≤ sizeLine + 1 := by
    rw [Array.size_append]
    exact h2
  wp_walk using (wpAny_updateSeq hl rfl (hz := h1) (_hz' := hz')), wpAny_loadPart' hl, wpAny_loadPart' hb
  exact ⟨_, rfl, h⟩
section
variable {X : Cx}
def rExtT (K : PySem.W.Frag) : V → List V → Hp → VK → Prop := fun x vs H Q => ∃ l b xs zs, x = .ref l ∧ vs = [.ref b] ∧ H l = some (.lst xs) ∧ SqT K H b zs ∧ xs.length + zs.length ≤ sizeLine ∧ Q .non (upd H l (.lst (xs ++ zs)))
theorem mt_extT : MtR X "list.extend" (rExtT X.K) := by
  intro pins s σ H x vs v us Q I rx rv h
  obtain ⟨l, b, xs, zs, rfl, rfl, hH, hB, hz, q⟩ := h
  cases rx
  obtain ⟨u, rfl, ru⟩ := rv.one
  cases ru
  obtain ⟨z, its, n, r, hl, e⟩ := I.lstM hH
  obtain ⟨its2, r2, ⟨⟨c2, d2, a2, s2⟩, e2, hc, n2, hd⟩, _⟩ := I.tuple hB
  cases hc
  cases hd
  have hl2 := r2.length
  have hsz : its.toArray.size + its2.toArray.size ≤ sizeLine := by
    rw [List.size_toArray, List.size_toArray]
    omega
  have hlong : ¬ (!its.toArray.isEmpty && Builtin.List.listTooLong (its.toArray.size + its2.toArray.size)) = true := by
    rw [notLongL hsz, Bool.and_false]
    exact Bool.false_ne_true
  refine call_meets F.slot_list_extend ⟨_, e, rfl⟩ F.entry_list_extend (F.args_list_extend_2 _ _)
    (ext_lt l b its.toArray its2.toArray n n2 d2 s2 hlong (by rw [List.size_toArray]; omega) (by omega)) ⟨e, e2, ?_⟩
  exact ⟨.non, _, I.lset (its' := its ++ its2) hH e (by simp) (r.append r2) (by rw [List.length_append]; exact hz), rfl, q⟩
end
end KB

namespace KB
open PySem L2

/-! ### terms as data -/
inductive Hd | num (z : Int) | nam (x : Str) | plus | less | tell | lett (x : Str) | iff | ask (f : Str)
inductive Tm | mk (h : Hd) (n : Nat) (k : Fin n → Tm)
def hs : Hd → Str
  | .num _ => "number" | .nam _ => "name" | .plus => "plus" | .less => "less" | .tell => "tell" | .lett _ => "let" | .iff => "if" | .ask _ => "ask"
/-- what stands at a, xs being its parts -/
def Lay (H : Hp) (a : Addr) : Hd → List V → Prop
  | .num z, xs => xs = [] ∧ H a = some (.tup [.str "number", .int z])
  | .nam x, xs => xs = [] ∧ H a = some (.tup [.str "name", .str x])
  | .plus, xs => xs.length = 2 ∧ H a = some (.tup (.str "plus" :: xs))
  | .less, xs => xs.length = 2 ∧ H a = some (.tup (.str "less" :: xs))
  | .tell, xs => xs.length = 1 ∧ H a = some (.tup (.str "tell" :: xs))
  | .lett x, xs => xs.length = 2 ∧ H a = some (.tup (.str "let" :: .str x :: xs))
  | .iff, xs => xs.length = 3 ∧ H a = some (.tup (.str "if" :: xs))
  | .ask f, xs => xs.length ≤ 4 ∧ ∃ p, H a = some (.tup [.str "ask", .str f, .ref p]) ∧ H p = some (.tup xs)
def Rfs {n : Nat} (ys : Fin n → Addr) : List V := List.ofFn fun i => V.ref (ys i)
def At (H : Hp) : Tm → Addr → Prop
  | .mk h n k, a => ∃ ys : Fin n → Addr, Lay H a h (Rfs ys) ∧ ∀ i, At H (k i) (ys i)
def cnt : Tm → Nat
  | .mk _ _ k => 1 + (List.ofFn fun i => cnt (k i)).sum
def places : Tm → List (List Int)
  | .mk _ n k => [] :: (List.ofFn fun i : Fin n => (places (k i)).map ((i.val : Int) :: ·)).flatten
def flatHd : Hd → Bool
  | .num _ | .nam _ | .plus | .less => true
  | _ => false
def simple : Tm → Bool
  | .mk h _ k => flatHd h && (List.ofFn fun i => simple (k i)).all id
def letsOf : Tm → List Str
  | .mk h _ k => (match h with | .lett x => [x] | _ => []) ++ (List.ofFn fun i => letsOf (k i)).flatten

theorem Lay.mono {H H' : Hp} (e : Same H H') {a : Addr} {h : Hd} {xs : List V} (l : Lay H a h xs) : Lay H' a h xs := by
  cases h with
  | ask f => obtain ⟨z, p, h1, h2⟩ := l; exact ⟨z, p, e _ _ h1, e _ _ h2⟩
  | _ => exact ⟨l.1, e _ _ l.2⟩
theorem At.mono {H H' : Hp} (e : Same H H') : ∀ {t : Tm} {a : Addr}, At H t a → At H' t a := by
  intro t
  induction t with
  | mk h n k ih =>
    rintro a ⟨ys, l, r⟩
    exact ⟨ys, l.mono e, fun i => ih i (r i)⟩
/-- every node begins with its word -/
theorem Lay.head {H : Hp} {a : Addr} {h : Hd} {xs : List V} (l : Lay H a h xs) : ∃ r, H a = some (.tup (.str (hs h) :: r)) := by
  cases h with
  | ask f => obtain ⟨z, p, h1, h2⟩ := l; exact ⟨_, h1⟩
  | _ => exact ⟨_, l.2⟩

theorem same_new {H : Hp} {p : Addr} (h : H p = none) (o : HO) : Same H (upd H p o) := fun b u q => by
  rw [upd_ne (ne_of_none q h)]
  exact q
theorem sIx_at {n d : Nat} {i : Int} (h0 : 0 ≤ i) (h : i.toNat ≤ n) : HT.sIx n d (some i) = i.toNat := by
  show (if i < 0 then (i + (n : Int)).toNat else min i.toNat n) = i.toNat
  rw [if_neg (by omega)]
  omega
theorem sIx_no {n d : Nat} : HT.sIx n d none = d := rfl
theorem not_whole {xs : List V} {i : Int} (h0 : 0 < i) (h : i.toNat ≤ xs.length) : ¬ (HT.sIx xs.length 0 (some i) = 0 ∧ HT.sIx xs.length xs.length none = xs.length) := by
  rw [sIx_at (by omega) h]
  omega
theorem cut_from {xs : List V} {i : Int} (h0 : 0 ≤ i) (h : i.toNat ≤ xs.length) : cutV xs (some i) none = xs.drop i.toNat := by
  unfold cutV
  rw [sIx_at h0 h, sIx_no, List.take_of_length_le (by rw [List.length_drop]; exact Nat.le_refl _)]
theorem len1 {α : Type} {x : α} {r : List α} : 1 ≤ (x :: r).length := Nat.succ_le_succ (Nat.zero_le _)
theorem len2 {α : Type} {x y : α} {r : List α} : 2 ≤ (x :: y :: r).length := Nat.succ_le_succ len1
theorem cut1 {x : V} {r : List V} : cutV (x :: r) (some 1) none = r := cut_from (i := 1) (by decide) len1
theorem cut2 {x y : V} {r : List V} : cutV (x :: y :: r) (some 2) none = r := cut_from (i := 2) (by decide) len2
theorem itT {b : Bool} {A B : Prop} (e : b = true) (h : A) : if b = true then A else B := by
  rw [if_pos e]
  exact h
theorem itF {b : Bool} {A B : Prop} (e : b = false) (h : B) : if b = true then A else B := by
  rw [if_neg (by rw [e]; exact Bool.false_ne_true)]
  exact h
theorem at0 {x : V} {r : List V} : atI (x :: r) 0 = some x := at_of (j := 0) rfl rfl
theorem at1 {x y : V} {r : List V} : atI (x :: y :: r) 1 = some y := at_of (j := 1) rfl rfl
theorem at2 {x y z : V} {r : List V} : atI (x :: y :: z :: r) 2 = some z := at_of (j := 2) rfl rfl
theorem sz {n : Nat} (h : n ≤ 100000) : n ≤ sizeLine := Nat.le_trans h (by decide)
/-- the facts of the top -/
structure Ref (K : PySem.W.Frag) (mg : Str → Option Value) (x : Str) (f : Addr) (fd : FuncData) (ps : List Str) : Prop where
  m : mg x = some (.ref f)
  k : PySem.W.keepIn K (.ref f) = true
  b : Binds K fd ps []
structure Txt (K : PySem.W.Frag) (mg : Str → Option Value) : Prop where
  m_len : mg "len" = none
  m_isinstance : mg "isinstance" = none
  m_int : mg "int" = none
  m_tuple : mg "tuple" = none
  m_list : mg "list" = none
  m_str : mg "str" = none
  m_bool : mg "bool" = none
  m_max : mg "max" = none
  m_all : mg "all" = none
  m_dict : mg "dict" = none
  m_range : mg "range" = none
  m_enumerate : mg "enumerate" = none
  m_reversed : mg "reversed" = none

section
variable {P : Program} {w : World} {K : PySem.W.Frag} {mg : Str → Option Value} {base : Heap}
/-! ### parts_of and _law_parts -/
def spParts : Sp := fun vs H Q _ => ∃ a h xs, vs = [.ref a] ∧ Lay H a h xs ∧ ∀ p H', Same H H' → H' p = some (.tup xs) → Q (.ref p) H'
end
end KB

namespace KB
open PySem L2

/-! ### rules and small facts -/
def repS (z : Str) (k : Int) : Str := ⟨(List.replicate k.toNat z.cps).foldl (· ++ ·) #[]⟩
def rMulS : R2 := fun x y H Q => ∃ z k, x = .str z ∧ y = .int k ∧ 1 ≤ k ∧ k ≤ 1000 ∧ 1 ≤ z.length ∧ z.length ≤ 1000 ∧ Q (.str (repS z k)) H
theorem repS_one (z : Str) : repS z 1 = z := by
  unfold repS
  show (⟨#[] ++ z.cps⟩ : Str) = z
  rw [Array.empty_append]
theorem size_rep (xs : Array Nat) : ∀ (k : Nat) (acc : Array Nat), ((List.replicate k xs).foldl (· ++ ·) acc).size = acc.size + k * xs.size
  | 0, acc => by
    rw [Nat.zero_mul]
    rfl
  | k + 1, acc => by
    rw [List.replicate_succ, List.foldl_cons, size_rep xs k, Array.size_append, Nat.succ_mul]
    omega
theorem op_mul_str {X : Cx} : OpR X (binaryOp .Mult) rMulS := by
  intro pins s σ H x y v u Q I rx ry h
  obtain ⟨z, k, rfl, rfl, h1, h2, h3, h4, q⟩ := h
  obtain ⟨t, rfl⟩ := rx
  obtain ⟨t', rfl⟩ := ry
  refine PySem.P.mul_str ?_ ?_ ?_ ?_
  · rw [decide_eq_false (by omega), decide_eq_false (by omega)]
    rfl
  · intro _ _
    have e1 : (1000 : Int) * k ≤ 1000000 := by omega
    have e2 : (9223372036854775807 : Int) / k ≥ 9223372036854775 := by
      have e3 : (9223372036854775807 : Int) / k ≥ 9223372036854775807 / 1000 := by
        refine Int.le_ediv_of_mul_le (by omega) ?_
        have : (9223372036854775807 / 1000 : Int) = 9223372036854775 := by decide
        rw [this]
        have : (9223372036854775 : Int) * k ≤ 9223372036854775 * 1000 := Int.mul_le_mul_of_nonneg_left h2 (by decide)
        omega
      have : (9223372036854775807 / 1000 : Int) = 9223372036854775 := by decide
      omega
    have e4 : ((2 : Int) ^ 63 - 1) = 9223372036854775807 := by decide
    rw [e4]
    omega
  · intro _ _
    have e : z.length * k.toNat ≤ 1000 * 1000 := Nat.mul_le_mul h4 (by omega)
    exact decide_eq_false (by show ¬ _ > sizeLine; exact Nat.not_lt.mpr (Nat.le_trans e (by decide)))
  · rw [if_neg (by omega)]
    have hz : (z.length == 0) = false := by
      rw [beq_eq_false_iff_ne]
      omega
    by_cases hk : k = 1
    · subst hk
      rw [if_pos (by rfl)]
      rw [repS_one] at q
      exact ⟨.str z, H, I, ⟨t, rfl⟩, q⟩
    · have hk2 : (k == 1) = false := by
        rw [beq_eq_false_iff_ne]
        exact hk
      rw [if_neg (by rw [hk2, hz]; decide)]
      have e : z.length * k.toNat ≤ 1000 * 1000 := Nat.mul_le_mul h4 (by omega)
      have e2 := size_rep z.cps k.toNat #[]
      refine ⟨?_, .str (repS z k), H, I.tok _, ⟨_, rfl⟩, q⟩
      show (List.foldl (fun x1 x2 => x1 ++ x2) #[] (List.replicate k.toNat z.cps)).size ≤ sizeLine
      rw [e2, Nat.mul_comm]
      show 0 + z.length * k.toNat ≤ sizeLine
      rw [Nat.zero_add]
      exact Nat.le_trans e (by decide)

/-! ### stacks of terms -/
def Stk (H : Hp) : List V → List Tm → Prop
  | [], [] => True
  | v :: vs, t :: ts => (∃ b, v = .ref b ∧ At H t b) ∧ Stk H vs ts
  | _, _ => False
theorem Stk.mono {H H' : Hp} (e : Same H H') : ∀ {vs : List V} {ts : List Tm}, Stk H vs ts → Stk H' vs ts
  | [], [], _ => trivial
  | _ :: _, _ :: _, h => ⟨let ⟨b, e1, h1⟩ := h.1; ⟨b, e1, h1.mono e⟩, Stk.mono e h.2⟩
  | [], _ :: _, h => h.elim
  | _ :: _, [], h => h.elim
theorem Stk.app {H : Hp} : ∀ {vs us : List V} {ts ss : List Tm}, Stk H vs ts → Stk H us ss → Stk H (vs ++ us) (ts ++ ss)
  | [], _, [], _, _, k => k
  | _ :: _, _, _ :: _, _, h, k => ⟨h.1, Stk.app h.2 k⟩
  | [], _, _ :: _, _, h, _ => h.elim
  | _ :: _, _, [], _, h, _ => h.elim
theorem Stk.rev {H : Hp} : ∀ {vs : List V} {ts : List Tm}, Stk H vs ts → Stk H vs.reverse ts.reverse
  | [], [], _ => trivial
  | v :: vs, t :: ts, h => by
    rw [List.reverse_cons, List.reverse_cons]
    exact Stk.app (Stk.rev h.2) ⟨h.1, trivial⟩
  | [], _ :: _, h => h.elim
  | _ :: _, [], h => h.elim
theorem Stk.len {H : Hp} : ∀ {vs : List V} {ts : List Tm}, Stk H vs ts → vs.length = ts.length
  | [], [], _ => rfl
  | _ :: _, _ :: _, h => congrArg (· + 1) (Stk.len h.2)
  | [], _ :: _, h => h.elim
  | _ :: _, [], h => h.elim
theorem Stk.fn {H : Hp} : ∀ {n : Nat} {ys : Fin n → Addr} {k : Fin n → Tm}, (∀ i, At H (k i) (ys i)) → Stk H (Rfs ys) (List.ofFn k)
  | 0, _, _, _ => trivial
  | n + 1, ys, k, h => by
    unfold Rfs
    rw [List.ofFn_succ, List.ofFn_succ]
    exact ⟨⟨_, rfl, h 0⟩, Stk.fn (ys := fun i => ys i.succ) (k := fun i => k i.succ) fun i => h i.succ⟩
def cnts (ts : List Tm) : Nat := (ts.map cnt).sum
theorem cnts_app (a b : List Tm) : cnts (a ++ b) = cnts a + cnts b := by
  unfold cnts
  rw [List.map_append, List.sum_append]
theorem cnts_rev (a : List Tm) : cnts a.reverse = cnts a := by
  induction a with
  | nil => rfl
  | cons x r ih =>
    rw [List.reverse_cons, cnts_app, ih]
    unfold cnts
    simp only [List.map_cons, List.map_nil, List.sum_cons, List.sum_nil]
    omega
theorem cnt_mk {h : Hd} {n : Nat} {k : Fin n → Tm} : cnt (.mk h n k) = 1 + cnts (List.ofFn k) := by
  show 1 + (List.ofFn fun i => cnt (k i)).sum = 1 + ((List.ofFn k).map cnt).sum
  rw [List.map_ofFn]
  rfl
theorem cnts_cons {t : Tm} {r : List Tm} : cnts (t :: r) = cnt t + cnts r := rfl
theorem cnt_pos : ∀ t : Tm, 1 ≤ cnt t
  | .mk _ _ _ => by rw [cnt_mk]; omega
theorem len_cnts : ∀ ts : List Tm, ts.length ≤ cnts ts
  | [] => Nat.le_refl _
  | t :: r => by
    have h1 := cnt_pos t
    have h2 := len_cnts r
    rw [cnts_cons, List.length_cons]
    omega

section
variable {P : Program} {w : World} {K : PySem.W.Frag} {mg : Str → Option Value} {base : Heap}
theorem same_mut {H H' : Hp} {p : Addr} {o : HO} (e : Same H H') (h : H p = none) : Same H (upd H' p o) := fun a u ha => by
  rw [upd_ne (ne_of_none ha h)]
  exact e _ _ ha
/-- a list rewritten leaves the terms -/
theorem Lay.put {H : Hp} {l : Addr} {xs ys : List V} (hl : H l = some (.lst xs)) {a : Addr} {h : Hd} {us : List V} (q : Lay H a h us) : Lay (upd H l (.lst ys)) a h us := by
  have go : ∀ {b : Addr} {zs : List V}, H b = some (.tup zs) → upd H l (.lst ys) b = some (.tup zs) := fun {b zs} z => by
    rw [upd_ne (ne_of z hl (by intro e; cases e))]
    exact z
  cases h with
  | ask f => obtain ⟨z, p, h1, h2⟩ := q; exact ⟨z, p, go h1, go h2⟩
  | _ => exact ⟨q.1, go q.2⟩
theorem At.put {H : Hp} {l : Addr} {xs ys : List V} (hl : H l = some (.lst xs)) : ∀ {t : Tm} {a : Addr}, At H t a → At (upd H l (.lst ys)) t a := by
  intro t
  induction t with
  | mk h n k ih =>
    rintro a ⟨zs, q, r⟩
    exact ⟨zs, q.put hl, fun i => ih i (r i)⟩
theorem Stk.put {H : Hp} {l : Addr} {xs ys : List V} (hl : H l = some (.lst xs)) : ∀ {vs : List V} {ts : List Tm}, Stk H vs ts → Stk (upd H l (.lst ys)) vs ts
  | [], [], _ => trivial
  | _ :: _, _ :: _, h => ⟨let ⟨b, e1, h1⟩ := h.1; ⟨b, e1, h1.put hl⟩, Stk.put hl h.2⟩
  | [], _ :: _, h => h.elim
  | _ :: _, [], h => h.elim
end
end KB

namespace KB
open PySem L2

/-! ### what leaves the tuples -/
def TK (H H' : Hp) : Prop := ∀ a xs, H a = some (.tup xs) → H' a = some (.tup xs)
theorem TK.refl (H : Hp) : TK H H := fun _ _ h => h
theorem TK.trans {H H1 H2 : Hp} (a : TK H H1) (b : TK H1 H2) : TK H H2 := fun x o h => b x o (a x o h)
theorem tk_same {H H' : Hp} (e : Same H H') : TK H H' := fun a _ h => e a _ h
theorem tk_put {H : Hp} {l : Addr} {xs : List V} {o : HO} (hl : H l = some (.lst xs)) : TK H (upd H l o) := fun a zs z => by
  rw [upd_ne (ne_of z hl (by intro e; cases e))]
  exact z
theorem Lay.tk {H H' : Hp} (e : TK H H') {a : Addr} {h : Hd} {xs : List V} (l : Lay H a h xs) : Lay H' a h xs := by
  cases h with
  | ask f => obtain ⟨z, p, h1, h2⟩ := l; exact ⟨z, p, e _ _ h1, e _ _ h2⟩
  | _ => exact ⟨l.1, e _ _ l.2⟩
theorem At.tk {H H' : Hp} (e : TK H H') : ∀ {t : Tm} {a : Addr}, At H t a → At H' t a := by
  intro t
  induction t with
  | mk h n k ih =>
    rintro a ⟨ys, l, r⟩
    exact ⟨ys, l.tk e, fun i => ih i (r i)⟩

theorem Stk.tk {H H' : Hp} (e : TK H H') : ∀ {vs : List V} {ts : List Tm}, Stk H vs ts → Stk H' vs ts
  | [], [], _ => trivial
  | _ :: _, _ :: _, h => ⟨let ⟨b, e1, h1⟩ := h.1; ⟨b, e1, h1.tk e⟩, Stk.tk e h.2⟩
  | [], _ :: _, h => h.elim
  | _ :: _, [], h => h.elim
theorem Stk.get {H : Hp} : ∀ {vs : List V} {ts : List Tm} {i : Nat} {v : V}, Stk H vs ts → vs[i]? = some v → ∃ t, ts[i]? = some t ∧ ∃ b, v = .ref b ∧ At H t b
  | [], [], _, _, _, e => by simp at e
  | x :: vs, t :: ts, 0, v, h, e => ⟨t, rfl, by
    have e' : x = v := by simpa using e
    subst e'
    exact h.1⟩
  | x :: vs, t :: ts, i + 1, v, h, e => by
    obtain ⟨b, h1, h2⟩ := Stk.get (i := i) (v := v) h.2 (by simpa using e)
    exact ⟨b, by simpa using h1, h2⟩
  | [], _ :: _, _, _, h, _ => h.elim
  | _ :: _, [], _, _, h, _ => h.elim

/-! ### two lists, item by item -/
def All2 {α : Type} (R : α → V → Prop) : List α → List V → Prop
  | [], [] => True
  | a :: as, v :: vs => R a v ∧ All2 R as vs
  | _, _ => False
theorem All2.imp {α : Type} {R S : α → V → Prop} (e : ∀ a v, R a v → S a v) : ∀ {as : List α} {vs : List V}, All2 R as vs → All2 S as vs
  | [], [], _ => trivial
  | _ :: _, _ :: _, h => ⟨e _ _ h.1, All2.imp e h.2⟩
  | [], _ :: _, h => h.elim
  | _ :: _, [], h => h.elim
theorem All2.app {α : Type} {R : α → V → Prop} : ∀ {as bs : List α} {vs ws : List V}, All2 R as vs → All2 R bs ws → All2 R (as ++ bs) (vs ++ ws)
  | [], _, [], _, _, k => k
  | _ :: _, _, _ :: _, _, h, k => ⟨h.1, All2.app h.2 k⟩
  | [], _, _ :: _, _, h, _ => h.elim
  | _ :: _, _, [], _, h, _ => h.elim
theorem All2.len {α : Type} {R : α → V → Prop} : ∀ {as : List α} {vs : List V}, All2 R as vs → vs.length = as.length
  | [], [], _ => rfl
  | _ :: _, _ :: _, h => congrArg (· + 1) (All2.len h.2)
  | [], _ :: _, h => h.elim
  | _ :: _, [], h => h.elim
theorem All2.get {α : Type} {R : α → V → Prop} : ∀ {as : List α} {vs : List V} {i : Nat} {v : V}, All2 R as vs → vs[i]? = some v → ∃ a, as[i]? = some a ∧ R a v
  | [], [], _, _, _, e => by simp at e
  | a :: as, x :: vs, 0, v, h, e => ⟨a, rfl, by
    have e' : x = v := by simpa using e
    subst e'
    exact h.1⟩
  | a :: as, x :: vs, i + 1, v, h, e => by
    obtain ⟨b, h1, h2⟩ := All2.get (i := i) (v := v) h.2 (by simpa using e)
    exact ⟨b, by simpa using h1, h2⟩
  | [], _ :: _, _, _, h, _ => h.elim
  | _ :: _, [], _, _, h, _ => h.elim

end KB

namespace KB
open PySem L2

/-! ### books -/
abbrev Er := Str × List Str × Tm
def ErV (H : Hp) (e : Er) (v : V) : Prop := ∃ q r b, v = .ref q ∧ H q = some (.tup [.str e.1, .ref r, .ref b]) ∧ H r = some (.tup (e.2.1.map V.str)) ∧ At H e.2.2 b
theorem ErV.tk {H H' : Hp} (t : TK H H') {e : Er} {v : V} (h : ErV H e v) : ErV H' e v :=
  let ⟨q, r, b, e1, h1, h2, h3⟩ := h; ⟨q, r, b, e1, t _ _ h1, t _ _ h2, h3.tk t⟩
def BkAt (H : Hp) (es : List Er) (vs : List V) (p : Addr) : Prop := H p = some (.tup vs) ∧ All2 (ErV H) es vs
theorem BkAt.tk {H H' : Hp} (t : TK H H') {es : List Er} {vs : List V} {p : Addr} (h : BkAt H es vs p) : BkAt H' es vs p := ⟨t _ _ h.1, h.2.imp fun _ _ z => z.tk t⟩
theorem All2.map {α β : Type} {R : β → V → Prop} {f : α → β} : ∀ {as : List α} {vs : List V}, All2 (fun a v => R (f a) v) as vs → All2 R (as.map f) vs
  | [], [], _ => trivial
  | _ :: _, _ :: _, h => ⟨h.1, All2.map h.2⟩
  | [], _ :: _, h => h.elim
  | _ :: _, [], h => h.elim

section
variable {P : Program} {w : World} {K : PySem.W.Frag} {mg : Str → Option Value} {base : Heap}
theorem mem_of_get {α : Type} {l : List α} {i : Nat} {a : α} (h : l[i]? = some a) : a ∈ l := List.mem_of_getElem? h
end
end KB

namespace KB
open PySem L2

theorem catA_of {K : PySem.W.Frag} {H : Hp} {a b : Addr} {xs ys : List V} {Q : VK} (ha : H a = some (.tup xs)) (hb : H b = some (.tup ys)) (hl : xs.length + ys.length ≤ 100000)
    (q : ∀ p H', Same H H' → H' p = some (.tup (xs ++ ys)) → Q (.ref p) H') : rCatA K (.ref a) (.ref b) H Q := by
  refine ⟨a, b, xs, ys, rfl, rfl, SqT.of ha, SqT.of hb, sz hl, fun z => ?_, fun _ z => ?_, fun _ _ p hp => ?_⟩
  · refine q b H (Same.refl H) ?_
    rw [z]
    exact hb
  · refine q a H (Same.refl H) ?_
    rw [z, List.append_nil]
    exact ha
  · exact q p _ (same_new hp _) upd_same
theorem cnt_mem {t : Tm} {ts : List Tm} (h : t ∈ ts) : cnt t ≤ cnts ts := by
  induction ts with
  | nil => cases h
  | cons a r ih =>
    rw [cnts_cons]
    rcases List.mem_cons.mp h with z | z
    · subst z
      omega
    · have := ih z
      omega
theorem cnts_take (ts : List Tm) (i : Nat) : cnts (ts.take i) ≤ cnts ts := by
  have e : cnts ts = cnts (ts.take i) + cnts (ts.drop i) := by rw [← cnts_app, List.take_append_drop]
  omega
def letsL (ts : List Tm) : List Str := (ts.map letsOf).flatten
def hdLets : Hd → List Str
  | .lett x => [x]
  | _ => []
theorem hdLets_le (h : Hd) : (hdLets h).length ≤ 1 := by
  cases h with
  | lett x => exact Nat.le_refl 1
  | _ => exact Nat.zero_le 1
theorem lets_mk {h : Hd} {n : Nat} {k : _root_.Fin n → Tm} : letsOf (.mk h n k) = hdLets h ++ letsL (List.ofFn k) := by
  have e : (List.ofFn fun i => letsOf (k i)) = (List.ofFn k).map letsOf := (List.map_ofFn ..).symm
  unfold letsL
  rw [← e]
  cases h <;> rfl
theorem lets_len : ∀ t : Tm, (letsOf t).length ≤ cnt t := by
  have go : ∀ ts : List Tm, (∀ t ∈ ts, (letsOf t).length ≤ cnt t) → (letsL ts).length ≤ cnts ts := by
    intro ts
    induction ts with
    | nil => intro _; exact Nat.le_refl _
    | cons a r ih =>
      intro h
      have h1 := h a List.mem_cons_self
      have h2 := ih fun u hu => h u (List.mem_cons_of_mem _ hu)
      have e : letsL (a :: r) = letsOf a ++ letsL r := by
        unfold letsL
        rw [List.map_cons, List.flatten_cons]
      rw [e, List.length_append, cnts_cons]
      omega
  intro t
  induction t with
  | mk h n k ih =>
    have := go (List.ofFn k) fun t ht => by
      obtain ⟨i, rfl⟩ := List.mem_ofFn.mp ht
      exact ih i
    rw [lets_mk, cnt_mk, List.length_append]
    have : (hdLets h).length ≤ 1 := hdLets_le h
    omega
theorem letsL_take {ts : List Tm} {i : Nat} {t : Tm} (h : ts[i]? = some t) : letsL (ts.take (i + 1)) = letsL (ts.take i) ++ letsOf t := by
  obtain ⟨hi, he⟩ := List.getElem?_eq_some_iff.mp h
  unfold letsL
  rw [List.take_succ_eq_append_getElem hi, List.map_append, List.flatten_append, he]
  simp

end KB

namespace KB
open PySem L2

/-! ### words as the program has them -/
def keptW : List Str := ["let", "be", "in", "tell", "if", "then", "else", "home", "zyzzyva"]
def small (c : Nat) : Bool := decide (97 ≤ c) && decide (c ≤ 122)
def isW (z : Str) : Bool := !keptW.contains z && (decide (1 ≤ z.length) && decide (z.length ≤ 8)) && z.cps.toList.all small
theorem isW_ok {z : Str} (h : isW z = true) : PySem.PyData.strOk z = true := by
  unfold isW at h
  rw [Bool.and_eq_true] at h
  have h2 := h.2
  rw [List.all_eq_true] at h2
  unfold PySem.PyData.strOk
  rw [← Array.all_toList, List.all_eq_true]
  intro c hc
  have := h2 c hc
  unfold small at this
  rw [Bool.and_eq_true] at this
  have := of_decide_eq_true this.2
  exact decide_eq_true (by omega)
theorem isW_len {z : Str} (h : isW z = true) : z.length ≤ 8 := by
  unfold isW at h
  rw [Bool.and_eq_true, Bool.and_eq_true, Bool.and_eq_true] at h
  exact of_decide_eq_true h.1.2.2
/-! ### the tape and lists of words -/
def But1 (tp : Addr) (H H' : Hp) : Prop := ∀ b o, b ≠ tp → H b = some o → H' b = some o
def Tp (H : Hp) (tp : Addr) : Prop := ∃ z, H tp = some (.lst [.int z])
theorem But1.refl (tp : Addr) (H : Hp) : But1 tp H H := fun _ _ _ h => h
theorem But1.trans {tp : Addr} {H H1 H2 : Hp} (a : But1 tp H H1) (b : But1 tp H1 H2) : But1 tp H H2 := fun x o n h => b x o n (a x o n h)
theorem but_same {tp : Addr} {H H' : Hp} (e : Same H H') : But1 tp H H' := fun b o _ h => e b o h
theorem But1.tk {tp : Addr} {H H' : Hp} (ht : Tp H tp) (e : But1 tp H H') : TK H H' := fun a xs h => by
  obtain ⟨z, hz⟩ := ht
  exact e a _ (ne_of h hz (by intro q; cases q)) h
/-- a list of words -/
def Wls (H : Hp) (a : Addr) (xs : List Str) : Prop := H a = some (.lst (xs.map V.str)) ∧ ∀ x ∈ xs, isW x = true
theorem wls_tp {H : Hp} {a tp : Addr} {xs : List Str} (h : H a = some (.lst (xs.map V.str))) (t : Tp H tp) : a ≠ tp := by
  rintro rfl
  obtain ⟨z, hz⟩ := t
  rw [h] at hz
  have e := HO.lst.inj (Option.some.inj hz)
  cases xs with
  | nil => cases e
  | cons x r =>
    rw [List.map_cons] at e
    cases (List.cons.inj e).1
theorem Wls.but {tp a : Addr} {H H' : Hp} {xs : List Str} (e : But1 tp H H') (t : Tp H tp) (h : Wls H a xs) : Wls H' a xs := ⟨e _ _ (wls_tp h.1 t) h.1, h.2⟩
theorem dp_strs {K : PySem.W.Frag} {H : Hp} : ∀ xs : List Str, DpAll K H (xs.map V.str) (xs.map PyData.str)
  | [] => .nil
  | x :: r => .cons (.str x) (dp_strs r)
theorem lay_strs : ∀ {xs : List Str}, (∀ x ∈ xs, PySem.PyData.strOk x = true) → PySem.PyData.canLayAll0 (xs.map PyData.str) = true
  | [], _ => rfl
  | x :: r, h => by
    show (PySem.PyData.strOk x && PySem.PyData.canLayAll0 (r.map PyData.str)) = true
    rw [h x List.mem_cons_self, lay_strs fun y hy => h y (List.mem_cons_of_mem _ hy)]
    rfl
theorem shaped_of {d : PyData} (h1 : d.canLay0 = true) (h2 : d.depth ≤ 64) : SeqAt.shaped d = true := Bool.and_eq_true_iff.mpr ⟨h1, decide_eq_true h2⟩
theorem depth_strs : ∀ xs : List Str, PySem.PyData.depthAll (xs.map PyData.str) = 0
  | [] => rfl
  | x :: r => by
    show max (PySem.PyData.depth (.str x)) (PySem.PyData.depthAll (r.map PyData.str)) = 0
    rw [depth_strs r]
    rfl
theorem shaped_strs {xs : List Str} (h : ∀ x ∈ xs, isW x = true) : SeqAt.shaped (.list (xs.map PyData.str)) = true := by
  refine shaped_of (lay_strs fun x hx => isW_ok (h x hx)) ?_
  show PySem.PyData.depthAll (xs.map PyData.str) + 1 ≤ 64
  rw [depth_strs]
  decide
theorem eqv_nil (xs : List Str) : PyData.eqv (.list (xs.map PyData.str)) (.list []) = xs.isEmpty := by
  cases xs <;> rfl

section
variable {P : Program} {w : World} {K : PySem.W.Frag} {mg : Str → Option Value} {base : Heap}
/-! ### _law_cell_at -/
def spCell (K : PySem.W.Frag) : Sp := fun vs H Q _ => ∃ (a : Addr) (ns : List Int) (k : Int), vs = [.ref a, .int k] ∧ SqL K H a (ns.map V.int) ∧ 0 ≤ k ∧ ∀ z, Q (.int z) H
abbrev s_law_cell_at : Stmt := top 8
theorem scLcell_at : FnScope ["script", "k"] ["script", "k"] (defScope s_law_cell_at) := ⟨rfl, rfl, rfl, by decide +kernel, rfl, by decide +kernel, by decide +kernel⟩
theorem ok_cell (T : Txt K mg) {f : Addr} {fd : FuncData} (F : Fun K "_law_cell_at" "_law_cell_at" s_law_cell_at f fd) : FnOk P w K mg base CX0 1 f fd ["script", "k"] (spCell K) := by
  refine F.ok scLcell_at (fun vs H Q E h => ?_) (fun cdv A outer s H vs Q E hr h => ?_)
  · obtain ⟨a, ns, k, rfl, _⟩ := h
    rfl
  obtain ⟨a, ns, k, rfl, hS, h0, q⟩ := h
  refine ⟨_, (pss_cons (ps_if (pt_cmpR op_lt (pv 1) (pe_callB call_len_seq (by rfl) T.m_len PySem.boot_len (pa_cons (pv 0) pa_nil)) (nomark _)) (pss_one (ps_ret (pe_ix ix_list (pv 0) (pv 1) (fun _ _ => rfl)))) pss_nil)
    (pss_one (ps_ret pe_int))), ?_⟩
  refine ⟨_, rfl, _, rfl, a, _, rfl, .inl hS, _, _, rfl, rfl, _, rfl, ?_⟩
  refine ite2 (fun c => ?_) (fun c => ?_)
  · have c' : k < (((ns.map V.int).length : Nat) : Int) := of_decide_eq_true c
    rw [List.length_map] at c'
    have hk : k.toNat < ns.length := by omega
    refine ⟨_, rfl, _, rfl, a, _, _, .int ns[k.toNat], rfl, rfl, hS, at_of (j := k.toNat) (by omega) ?_, q _⟩
    rw [List.getElem?_map, List.getElem?_eq_getElem hk]
    rfl
  · exact q 0
/-! ### _law_tape -/
def spTape (K : PySem.W.Frag) : Sp := fun vs H Q _ => ∃ (a : Addr) (ns : List Int) (k : Int), vs = [.ref a, .int k] ∧ SqL K H a (ns.map V.int) ∧ 0 ≤ k ∧ k ≤ 1000 ∧ ∀ p z, H p = none → Q (.ref p) (upd H p (.lst [.int z]))
abbrev s_law_tape : Stmt := top 9
theorem scLtape : FnScope ["script", "k", "cell", "p", "one", "found", "turn"] ["script", "k"] (defScope s_law_tape) := ⟨rfl, rfl, rfl, by decide +kernel, rfl, by decide +kernel, by decide +kernel⟩
theorem ok_tape (T : Txt K mg) {f g : Addr} {fd gd : FuncData} (F : Fun K "_law_tape" "_law_tape" s_law_tape f fd) (G_law_cell_at : FnOk P w K mg base CX0 1 g gd ["script", "k"] (spCell K)) (R_law_cell_at : Ref K mg "_law_cell_at" g gd ["script", "k"]) : FnOk P w K mg base CX0 2 f fd ["script", "k"] (spTape K) := by
  refine F.ok scLtape (fun vs H Q E h => ?_) (fun cdv A outer s H vs Q E hr h => ?_)
  · obtain ⟨a, ns, k, rfl, _⟩ := h
    rfl
  obtain ⟨a, ns, k, rfl, hS, h0, h1, q⟩ := h
  refine ⟨_, (pss_cons (ps_set (i := 2) scLtape.nd rfl (Or.inl rfl) (pe_call G_law_cell_at hr rfl R_law_cell_at.m R_law_cell_at.k R_law_cell_at.b .nil pass0 (pa_cons (pv 0) (pa_cons (pv 1) pa_nil))))
    (pss_cons (ps_if (pt_cmpR op_eq (pv 2) pe_int (nomark _)) (pss_one (ps_ret (pe_lst (pa_cons pe_int pa_nil)))) pss_nil)
    (pss_cons (ps_if (pt_cmpR op_ge (pv 2) (pe_op op_pow pe_int pe_int) (nomark _)) (pss_one (ps_ret (pe_lst (pa_cons (pe_op op_sub (pv 2) (pe_op op_pow pe_int pe_int)) pa_nil)))) pss_nil)
    (pss_cons (ps_set (i := 3) scLtape.nd rfl (Or.inl rfl) pe_int)
    (pss_cons (ps_set (i := 4) scLtape.nd rfl (Or.inl rfl) (pe_op op_mod (pe_op op_add (pe_op op_add (pe_op op_mul (pv 2) pe_int) (pe_op op_mul pe_int (pv 1))) pe_int) (pv 3)))
    (pss_cons (ps_set (i := 5) scLtape.nd rfl (Or.inl rfl) (pv 4))
    (pss_cons (ps_for PassesOwn.never rfl (pi_range1 rfl T.m_range (pa_cons pe_int pa_nil)) (pg_name (i := 6) scLtape.nd rfl (Or.inl rfl)) (pss_cons (ps_set (i := 4) scLtape.nd rfl (Or.inl rfl) (pe_op op_mod (pe_op op_add (pe_op op_add (pe_op op_add (pe_op op_mul (pv 4) (pv 4)) (pe_op op_mul pe_int (pv 6))) (pv 2)) pe_int) (pv 3)))
    (pss_one (ps_set (i := 5) scLtape.nd rfl (Or.inl rfl) (pe_op op_add (pe_op op_mul (pv 5) (pv 3)) (pv 4))))))
    (pss_one (ps_ret (pe_lst (pa_cons (pv 5) pa_nil))))))))))), ?_⟩
  have b1 : ∀ x : Int, 0 ≤ x → x < 2305843009213693951 → -(2 ^ 64) < x ∧ x < 2 ^ 64 := fun x h1 h2 => by
    have e : (2 : Int) ^ 64 = 18446744073709551616 := by decide
    rw [e]
    omega
  refine ⟨_, rfl, _, rfl, a, ns, k, rfl, hS, h0, fun z => ?_⟩
  refine ⟨_, rfl, rfl, _, rfl, ?_⟩
  refine ite2 (fun c => ?_) (fun c => ?_)
  · exact ⟨sz (by show 1 ≤ 100000; decide), fun p hp => q p 0 hp⟩
  refine ⟨_, rfl, _, _, rfl, rfl, ⟨by decide, by decide, by decide⟩, _, _, rfl, rfl, _, rfl, ?_⟩
  refine ite2 (fun c => ?_) (fun c => ?_)
  · exact ⟨_, rfl, _, _, rfl, rfl, ⟨by decide, by decide, by decide⟩, _, _, rfl, rfl, sz (by show 1 ≤ 100000; decide), fun p hp => q p _ hp⟩
  refine ⟨_, rfl, _, _, rfl, rfl, .inr ⟨by decide, by decide⟩, _, rfl, _, _, rfl, rfl, .inl ⟨by decide, by decide⟩, _, _, rfl, rfl, _, _, rfl, rfl, _, rfl, _, _, rfl, rfl, (by show (0 : Int) < 2305843009213693951; decide), ?_⟩
  refine ⟨_, rfl, ?_⟩
  refine ⟨20, rfl, by decide, by decide, for_range (lo := 0) (n := 20) (fun i σ H' => ∃ one found o, σ = [some (.ref a), some (.int k), some (.int z), some (.int 2305843009213693951), some (.int one), some (.int found), o] ∧ H' = H ∧ 0 ≤ one ∧ one < 2305843009213693951) ?_ ?_ ?_⟩
  · exact ⟨_, _, _, rfl, rfl, Int.emod_nonneg _ (by decide), Int.emod_lt_of_pos _ (by decide)⟩
  · rintro i σ H' hi ⟨one, found, o, rfl, rfl, g0, g1⟩
    refine ⟨_, rfl, _, rfl, _, _, rfl, rfl, .inl (b1 one g0 g1), _, rfl, _, _, rfl, rfl, .inl ⟨by decide, by decide⟩, _, _, rfl, rfl, _, rfl, _, _, rfl, rfl, _, _, rfl, rfl, _, rfl, _, _, rfl, rfl, (by show (0 : Int) < 2305843009213693951; decide), ?_⟩
    refine ⟨_, rfl, _, rfl, _, _, rfl, rfl, .inr ⟨by decide, by decide⟩, _, rfl, _, _, rfl, rfl, ?_⟩
    exact ⟨_, _, _, rfl, rfl, Int.emod_nonneg _ (by decide), Int.emod_lt_of_pos _ (by decide)⟩
  · rintro σ H' ⟨one, found, o, rfl, rfl, g0, g1⟩
    exact ⟨_, rfl, sz (by show 1 ≤ 100000; decide), fun p hp => q p _ hp⟩
/-! ### _law_digit -/
def spDig : Sp := fun vs H Q _ => ∃ (tp : Addr) (many : Int), vs = [.ref tp, .int many] ∧ Tp H tp ∧ 0 < many ∧ many ≤ 100000000000000000000000000000000000000000000000000000000000 ∧ ∀ r H', 0 ≤ r → r < many → But1 tp H H' → Tp H' tp → Q (.int r) H'
theorem log_many {m : Int} (h0 : 0 < m) (h1 : m ≤ 100000000000000000000000000000000000000000000000000000000000) : m.natAbs.log2 < 9000 := by
  refine PySem.Flt.log2_lt_of (by decide) (Nat.lt_of_le_of_lt (m := 100000000000000000000000000000000000000000000000000000000000) (by omega) ?_)
  exact Nat.lt_of_lt_of_le (m := 2 ^ 200) (by decide) (Nat.pow_le_pow_right (by decide) (by decide))
abbrev s_law_digit : Stmt := top 10
theorem scLdigit : FnScope ["tape", "many", "found"] ["tape", "many"] (defScope s_law_digit) := ⟨rfl, rfl, rfl, by decide +kernel, rfl, by decide +kernel, by decide +kernel⟩
theorem ok_dig {f : Addr} {fd : FuncData} (F : Fun K "_law_digit" "_law_digit" s_law_digit f fd) : FnOk P w K mg base CX0 1 f fd ["tape", "many"] spDig := by
  refine F.ok scLdigit (fun vs H Q E h => ?_) (fun cdv A outer s H vs Q E hr h => ?_)
  · obtain ⟨tp, many, rfl, _⟩ := h
    rfl
  obtain ⟨tp, many, rfl, ⟨z, hz⟩, h0, h1, q⟩ := h
  refine ⟨_, (pss_cons (ps_set (i := 2) scLdigit.nd rfl (Or.inl rfl) (pe_op op_mod (pe_ix ix_list (pv 0) pe_int (fun _ _ => rfl)) (pv 1)))
    (pss_cons (ps_asg (pe_op op_fdivW (pe_ix ix_list (pv 0) pe_int (fun _ _ => rfl)) (pv 1)) (pg_sub (pv 0) pe_int set_list))
    (pss_one (ps_ret (pv 2))))), ?_⟩
  refine ⟨_, rfl, tp, _, _, _, rfl, rfl, SqL.of hz, at0, _, rfl, _, _, rfl, rfl, h0, ?_⟩
  refine ⟨_, rfl, tp, _, _, _, rfl, rfl, SqL.of hz, at0, _, rfl, _, _, rfl, rfl, ⟨h0, log_many h0 h1⟩, ?_⟩
  refine ⟨_, rfl, tp, _, _, 0, rfl, rfl, hz, rfl, ?_⟩
  refine ⟨_, rfl, q _ _ (Int.emod_nonneg _ (by omega)) (Int.emod_lt_of_pos _ h0) (fun b o n h => ?_) ⟨_, upd_same⟩⟩
  rw [upd_ne n]
  exact h
/-! ### _law_number -/
def spNum : Sp := fun vs H Q _ => ∃ (tp : Addr), vs = [.ref tp] ∧ Tp H tp ∧ ∀ r H', But1 tp H H' → Tp H' tp → 0 ≤ r → r < 1000 → Q (.int r) H'
abbrev s_law_number : Stmt := top 12
theorem scLnumber : FnScope ["tape", "way"] ["tape"] (defScope s_law_number) := ⟨rfl, rfl, rfl, by decide +kernel, rfl, by decide +kernel, by decide +kernel⟩
theorem at_some {xs : List V} {i : Int} (h0 : 0 ≤ i) (h1 : i < (xs.length : Int)) : ∃ v, atI xs i = some v ∧ v ∈ xs := by
  have h : i.toNat < xs.length := by omega
  exact ⟨xs[i.toNat], at_of (j := i.toNat) (by omega) (List.getElem?_eq_getElem h), List.getElem_mem h⟩
theorem ok_num {f g : Addr} {fd gd : FuncData} (F : Fun K "_law_number" "_law_number" s_law_number f fd) (G_law_digit : FnOk P w K mg base CX0 1 g gd ["tape", "many"] spDig) (R_law_digit : Ref K mg "_law_digit" g gd ["tape", "many"]) : FnOk P w K mg base CX0 2 f fd ["tape"] spNum := by
  refine F.ok scLnumber (fun vs H Q E h => ?_) (fun cdv A outer s H vs Q E hr h => ?_)
  · obtain ⟨tp, rfl, _⟩ := h
    rfl
  obtain ⟨tp, rfl, ht, q⟩ := h
  refine ⟨_, (pss_cons (ps_set (i := 1) scLnumber.nd rfl (Or.inl rfl) (pe_call G_law_digit hr rfl R_law_digit.m R_law_digit.k R_law_digit.b .nil pass0 (pa_cons (pv 0) (pa_cons pe_int pa_nil))))
    (pss_cons (ps_if (pt_cmpR op_eq (pv 1) pe_int (nomark _)) (pss_one (ps_ret (pe_call G_law_digit hr rfl R_law_digit.m R_law_digit.k R_law_digit.b .nil pass0 (pa_cons (pv 0) (pa_cons pe_int pa_nil))))) pss_nil)
    (pss_one (ps_ret (pe_ix ix_list (pe_lst (pa_cons pe_int (pa_cons pe_int (pa_cons pe_int (pa_cons pe_int (pa_cons pe_int pa_nil)))))) (pv 1) (fun _ _ => rfl)))))), ?_⟩
  refine ⟨_, rfl, tp, 6, rfl, ht, by decide, by decide, fun r H1 r0 r1 k1 t1 => ?_⟩
  refine ⟨_, rfl, rfl, _, rfl, ?_⟩
  refine ite2 (fun c => ?_) (fun c => ?_)
  · exact ⟨_, rfl, tp, 1000, rfl, t1, by decide, by decide, fun r2 H2 z0 z1 k2 t2 => q r2 H2 (k1.trans k2) t2 z0 z1⟩
  · have c' : r ≠ 5 := fun z => c (decide_eq_true (congrArg V.int z))
    refine ⟨sz (by show 5 ≤ 100000; decide), fun p hp => ?_⟩
    have np : tp ≠ p := by
      obtain ⟨z, hz⟩ := t1
      exact ne_of_none hz hp
    obtain ⟨v, hv, hm⟩ := at_some (xs := [V.int 0, .int 1, .int 1, .int 2, .int 3]) (i := r) r0 (by show r < 5; omega)
    have hi : ∃ n : Int, v = V.int n ∧ 0 ≤ n ∧ n < 1000 := by
      simp only [List.mem_cons, List.not_mem_nil, or_false] at hm
      rcases hm with z | z | z | z | z <;> exact ⟨_, z, by decide, by decide⟩
    obtain ⟨n, rfl, z0, z1⟩ := hi
    refine ⟨_, rfl, p, _, _, _, rfl, rfl, SqL.of upd_same, hv, ?_⟩
    refine q n _ (k1.trans (but_same (same_new hp _))) ?_ z0 z1
    obtain ⟨z, hz⟩ := t1
    exact ⟨z, same_new hp _ _ _ hz⟩
end
end KB

namespace KB
open PySem L2

/-! ### good terms -/
def okH : Hd → Prop
  | .nam x | .lett x | .ask x => isW x = true
  | .num z => 0 ≤ z ∧ z < 1000
  | _ => True
def okT : Tm → Prop
  | .mk h _ k => okH h ∧ ∀ i, okT (k i)
def HtLe : Nat → Tm → Prop
  | 0, _ => False
  | n + 1, .mk _ _ k => ∀ i, HtLe n (k i)
theorem HtLe.up : ∀ {n : Nat} {t : Tm}, HtLe n t → HtLe (n + 1) t
  | 0, _, h => h.elim
  | n + 1, .mk _ _ _, h => fun i => HtLe.up (n := n) (h i)
theorem HtLe.le {n m : Nat} {t : Tm} (h : HtLe n t) (e : n ≤ m) : HtLe m t := by
  induction e with
  | refl => exact h
  | step _ ih => exact ih.up
/-- each name within its word's reach, each ask with as many terms as hd says -/
def okN (hd : Str → Option Nat) : Hd → Nat → List Str → Prop
  | .nam x, _, xs => x ∈ xs
  | .ask f, n, _ => hd f = some n
  | _, _, _ => True
def inn : Hd → Nat → List Str → List Str
  | .lett x, 1, xs => xs ++ [x]
  | _, _, xs => xs
def okS (hd : Str → Option Nat) : Tm → List Str → Prop
  | .mk h n k, xs => okN hd h n xs ∧ ∀ i, okS hd (k i) (inn h i.val xs)
def mkL (h : Hd) (ts : List Tm) : Tm := .mk h ts.length fun i => ts.get i
theorem ofFn_get (ts : List Tm) : List.ofFn (fun i => ts.get i) = ts := by
  refine List.ext_getElem (by simp) fun i h1 h2 => ?_
  simp
theorem cnt_mkL {h : Hd} {ts : List Tm} : cnt (mkL h ts) = 1 + cnts ts := by
  unfold mkL
  rw [cnt_mk, ofFn_get]
theorem ok_mkL {h : Hd} {ts : List Tm} (a : okH h) (b : ∀ t ∈ ts, okT t) : okT (mkL h ts) := ⟨a, fun i => b _ (List.get_mem ts i)⟩
theorem ht_mkL {n : Nat} {h : Hd} {ts : List Tm} (b : ∀ t ∈ ts, HtLe n t) : HtLe (n + 1) (mkL h ts) := fun i => b _ (List.get_mem ts i)
theorem sc_mkL {hd : Str → Option Nat} {h : Hd} {ts : List Tm} {xs : List Str} (a : okN hd h ts.length xs) (b : ∀ i t, ts[i]? = some t → okS hd t (inn h i xs)) : okS hd (mkL h ts) xs :=
  ⟨a, fun i => b i.val _ (by rw [List.getElem?_eq_getElem i.isLt]; rfl)⟩
theorem lt_mkL {h : Hd} {ts : List Tm} : letsOf (mkL h ts) = hdLets h ++ letsL ts := by
  unfold mkL
  rw [lets_mk, ofFn_get]
theorem letsL_app (a b : List Tm) : letsL (a ++ b) = letsL a ++ letsL b := by
  unfold letsL
  rw [List.map_append, List.flatten_append]
theorem letsL_cons (t : Tm) (r : List Tm) : letsL (t :: r) = letsOf t ++ letsL r := by
  unfold letsL
  rw [List.map_cons, List.flatten_cons]
theorem stk_fn {H : Hp} : ∀ {vs : List V} {ts : List Tm}, Stk H vs ts → ∃ ys : _root_.Fin ts.length → Addr, Rfs ys = vs ∧ ∀ i, At H (ts.get i) (ys i)
  | [], [], _ => ⟨fun i => i.elim0, rfl, fun i => i.elim0⟩
  | v :: vs, t :: ts, h => by
    obtain ⟨⟨b, e, hb⟩, hr⟩ := h
    subst e
    obtain ⟨ys, e1, e2⟩ := stk_fn hr
    refine ⟨fun i => match i with | ⟨0, _⟩ => b | ⟨j + 1, hj⟩ => ys ⟨j, Nat.lt_of_succ_lt_succ hj⟩, ?_, ?_⟩
    · unfold Rfs
      show List.ofFn (n := ts.length + 1) _ = _
      rw [List.ofFn_succ, ← e1]
      rfl
    · rintro ⟨j, hj⟩
      cases j with
      | zero => exact hb
      | succ j => exact e2 ⟨j, Nat.lt_of_succ_lt_succ hj⟩
  | [], _ :: _, h => h.elim
  | _ :: _, [], h => h.elim
theorem at_mkL {H : Hp} {a : Addr} {h : Hd} {vs : List V} {ts : List Tm} (l : Lay H a h vs) (s : Stk H vs ts) : At H (mkL h ts) a := by
  obtain ⟨ys, e1, e2⟩ := stk_fn s
  refine ⟨ys, ?_, e2⟩
  rw [e1]
  exact l
/-- a new good term at a, of at most n terms, within at most d -/
structure Gd (H : Hp) (a : Addr) (n d : Nat) (hd : Str → Option Nat) (xs ls : List Str) (t : Tm) : Prop where
  at_ : At H t a
  ok : okT t
  cn : cnt t ≤ n
  dp : HtLe d t
  sc : okS hd t xs
  lt : letsOf t = ls
theorem Gd.tk {H H' : Hp} {a : Addr} {n d : Nat} {hd : Str → Option Nat} {xs ls : List Str} {t : Tm} (e : TK H H') (g : Gd H a n d hd xs ls t) : Gd H' a n d hd xs ls t := ⟨g.at_.tk e, g.ok, g.cn, g.dp, g.sc, g.lt⟩
theorem Gd.le {H : Hp} {a : Addr} {n d m e : Nat} {hd : Str → Option Nat} {xs ls : List Str} {t : Tm} (g : Gd H a n d hd xs ls t) (h1 : n ≤ m) (h2 : d ≤ e) : Gd H a m e hd xs ls t := ⟨g.at_, g.ok, Nat.le_trans g.cn h1, g.dp.le h2, g.sc, g.lt⟩
theorem gd_num {H : Hp} {a : Addr} {z : Int} {hd : Str → Option Nat} {xs : List Str} (l : Lay H a (.num z) []) (o : 0 ≤ z ∧ z < 1000) : Gd H a 1 1 hd xs [] (mkL (.num z) []) :=
  ⟨at_mkL l trivial, ok_mkL o (fun _ z => nomatch z), (by rw [cnt_mkL]; exact Nat.le_refl 1), ht_mkL (n := 0) (fun _ z => nomatch z), sc_mkL trivial (fun _ _ z => by simp at z), lt_mkL⟩
theorem gd_nam {H : Hp} {a : Addr} {x : Str} {hd : Str → Option Nat} {xs : List Str} (l : Lay H a (.nam x) []) (o : isW x = true) (m : x ∈ xs) : Gd H a 1 1 hd xs [] (mkL (.nam x) []) :=
  ⟨at_mkL l trivial, ok_mkL o (fun _ z => nomatch z), (by rw [cnt_mkL]; exact Nat.le_refl 1), ht_mkL (n := 0) (fun _ z => nomatch z), sc_mkL m (fun _ _ z => by simp at z), lt_mkL⟩

section
variable {P : Program} {w : World} {K : PySem.W.Frag} {mg : Str → Option Value} {base : Heap}
/-! ### _law_leaf -/
def spLeaf : Sp := fun vs H Q _ => ∃ (tp : Addr) (kv : V) (ar : Addr) (xs : List Str), vs = [.ref tp, kv, .ref ar] ∧ Tp H tp ∧ Wls H ar xs ∧ xs.length ≤ 1000 ∧ ∀ a t H', But1 tp H H' → Tp H' tp → (∀ hd, Gd H' a 1 1 hd xs [] t) → Q (.ref a) H'
abbrev s_law_leaf : Stmt := top 13
theorem scLleaf : FnScope ["tape", "known", "around"] ["tape", "known", "around"] (defScope s_law_leaf) := ⟨rfl, rfl, rfl, by decide +kernel, rfl, by decide +kernel, by decide +kernel⟩
theorem Tp.same {H H' : Hp} {tp : Addr} (e : Same H H') (t : Tp H tp) : Tp H' tp := let ⟨z, h⟩ := t; ⟨z, e _ _ h⟩
theorem ok_leaf (T : Txt K mg) {f g h : Addr} {fd gd hd : FuncData} (F : Fun K "_law_leaf" "_law_leaf" s_law_leaf f fd) (G_law_digit : FnOk P w K mg base CX0 1 g gd ["tape", "many"] spDig) (R_law_digit : Ref K mg "_law_digit" g gd ["tape", "many"])
    (G_law_number : FnOk P w K mg base CX0 2 h hd ["tape"] spNum) (R_law_number : Ref K mg "_law_number" h hd ["tape"]) : FnOk P w K mg base CX0 3 f fd ["tape", "known", "around"] spLeaf := by
  refine F.ok scLleaf (fun vs H Q E h => ?_) (fun cdv A outer s H vs Q E hr h => ?_)
  · obtain ⟨tp, kv, ar, xs, rfl, _⟩ := h
    rfl
  obtain ⟨tp, kv, ar, xs, rfl, ht, hw, hl, q⟩ := h
  refine ⟨_, (pss_cons (ps_if (PW.pt (pw_and (pt_cmpR (op_neD hr.units) (pv 2) (pe_lst pa_nil) (nomark _)) (pw_and1 (pt_cmpR op_gt (pe_call G_law_digit (hr.mono (by omega)) rfl R_law_digit.m R_law_digit.k R_law_digit.b .nil pass0 (pa_cons (pv 0) (pa_cons pe_int pa_nil))) pe_int (nomark _))))) (pss_one (ps_ret (pe_tup (pa_cons pe_str (pa_cons (pe_ix ix_list (pv 2) (pe_call G_law_digit (hr.mono (by omega)) rfl R_law_digit.m R_law_digit.k R_law_digit.b .nil pass0 (pa_cons (pv 0) (pa_cons (pe_callB call_len_seq (by rfl) T.m_len PySem.boot_len (pa_cons (pv 2) pa_nil)) pa_nil))) (fun _ _ => rfl)) pa_nil))))) pss_nil)
    (pss_one (ps_ret (pe_tup (pa_cons pe_str (pa_cons (pe_call G_law_number hr rfl R_law_number.m R_law_number.k R_law_number.b .nil pass0 (pa_cons (pv 0) pa_nil)) pa_nil)))))), ?_⟩
  have numW : ∀ H1, But1 tp H H1 → Tp H1 tp → (tRet (tTup (tCons (tC (.str "number")) (tCons (tCall spNum [] E0 (tCons (tVar 0) tNil)) tNil)))) { nx := fun x H' => Q V.non H', rt := Q } [some (.ref tp), some kv, some (.ref ar)] H1 := by
    intro H1 k1 t1
    refine ⟨_, rfl, tp, rfl, t1, fun r H2 k2 t2 r0 r1 => ⟨sz (by show 2 ≤ 100000; decide), fun p hp => ?_⟩⟩
    have s := same_new hp (.tup [.str "number", .int r])
    exact q p (mkL (.num r) []) _ ((k1.trans k2).trans (but_same s)) (t2.same s) (fun _ => gd_num ⟨rfl, upd_same⟩ ⟨r0, r1⟩)
  refine ⟨_, rfl, sz (by show 0 ≤ 100000; decide), fun p0 hp0 => ?_⟩
  have s0 := same_new hp0 (.lst [])
  refine ⟨.list (xs.map PyData.str), .list [], .lst (SqL.of (s0 _ _ hw.1)) (dp_strs xs), .lst (SqL.of upd_same) .nil, shaped_strs hw.2, rfl, _, rfl, ?_⟩
  rw [eqv_nil]
  cases xs with
  | nil => exact iteF (numW _ (but_same s0) (ht.same s0))
  | cons x0 xr =>
    refine iteT ⟨_, rfl, tp, 3, rfl, ht.same s0, by decide, by decide, fun r H1 r0 r1 k1 t1 => ?_⟩
    have k01 := (but_same s0).trans k1
    refine ⟨_, _, rfl, rfl, _, rfl, ?_⟩
    refine ite2 (fun c => ?_) (fun c => ?_)
    · have w1 := hw.but k01 ht
      refine ⟨_, rfl, _, rfl, _, rfl, ar, _, rfl, .inl (SqL.of w1.1), tp, _, rfl, t1, ?_, ?_, fun r2 H2 r3 r4 k2 t2 => ?_⟩
      · show (0 : Int) < (((x0 :: xr).map V.str).length : Nat)
        rw [List.length_map, List.length_cons]
        omega
      · rw [List.length_map]
        omega
      have w2 := w1.but k2 t1
      obtain ⟨v, hv, hm⟩ := at_some r3 r4
      obtain ⟨z, hz, rfl⟩ := List.mem_map.mp hm
      refine ⟨ar, _, _, _, rfl, rfl, SqL.of w2.1, hv, sz (by show 2 ≤ 100000; decide), fun p hp => ?_⟩
      have s := same_new hp (.tup [.str "name", .str z])
      exact q p (mkL (.nam z) []) _ ((k01.trans k2).trans (but_same s)) (t2.same s) (fun _ => gd_nam ⟨rfl, upd_same⟩ (hw.2 z hz) hz)
    · exact numW _ k01 t1
/-! ### _law_shares -/
def spShr : Sp := fun vs H Q _ => ∃ (tp : Addr) (room many : Int), vs = [.ref tp, .int room, .int many] ∧ Tp H tp ∧ 0 ≤ many ∧ many ≤ room ∧ room ≤ 1000 ∧
  ∀ (p : Addr) (xs : List Int) (H' : Hp), But1 tp H H' → Tp H' tp → H p = none → H' p = some (.lst (xs.map V.int)) → (xs.length : Int) = many → (∀ x ∈ xs, (1 : Int) ≤ x) → xs.sum ≤ room → Q (.ref p) H'
abbrev s_law_shares : Stmt := top 14
theorem scLshares : FnScope ["tape", "room", "many", "found", "left", "k", "more"] ["tape", "room", "many"] (defScope s_law_shares) := ⟨rfl, rfl, rfl, by decide +kernel, rfl, by decide +kernel, by decide +kernel⟩
theorem rep1 (n : Nat) : (List.replicate n [V.int 1]).flatten = (List.replicate n (1 : Int)).map V.int := by
  induction n with
  | zero => rfl
  | succ n ih =>
    rw [List.replicate_succ, List.flatten_cons, ih, List.replicate_succ]
    rfl
theorem sum1 (n : Nat) : (List.replicate n (1 : Int)).sum = n := by
  induction n with
  | zero => rfl
  | succ n ih =>
    rw [List.replicate_succ, List.sum_cons, ih]
    omega
theorem ok_shares (T : Txt K mg) {f g : Addr} {fd gd : FuncData} (F : Fun K "_law_shares" "_law_shares" s_law_shares f fd) (G_law_digit : FnOk P w K mg base CX0 1 g gd ["tape", "many"] spDig) (R_law_digit : Ref K mg "_law_digit" g gd ["tape", "many"]) : FnOk P w K mg base CX0 2 f fd ["tape", "room", "many"] spShr := by
  refine F.ok scLshares (fun vs H Q E h => ?_) (fun cdv A outer s H vs Q E hr h => ?_)
  · obtain ⟨tp, room, many, rfl, _⟩ := h
    rfl
  obtain ⟨tp, room, many, rfl, ht, h0, h1, h2, q⟩ := h
  refine ⟨_, (pss_cons (ps_set (i := 3) scLshares.nd rfl (Or.inl rfl) (pe_op op_rep (pe_lst (pa_cons pe_int pa_nil)) (pv 2)))
    (pss_cons (ps_set (i := 4) scLshares.nd rfl (Or.inl rfl) (pe_op op_sub (pv 1) (pv 2)))
    (pss_cons (ps_for PassesOwn.never rfl (pi_range1 rfl T.m_range (pa_cons (pv 2) pa_nil)) (pg_name (i := 5) scLshares.nd rfl (Or.inl rfl)) (pss_cons (ps_set (i := 6) scLshares.nd rfl (Or.inl rfl) (pe_call G_law_digit hr rfl R_law_digit.m R_law_digit.k R_law_digit.b .nil pass0 (pa_cons (pv 0) (pa_cons (pe_op op_add (pv 4) pe_int) pa_nil))))
    (pss_cons (ps_asg (pe_op op_add (pe_ix ix_list (pv 3) (pv 5) (fun _ _ => rfl)) (pv 6)) (pg_sub (pv 3) (pv 5) set_list))
    (pss_one (ps_set (i := 4) scLshares.nd rfl (Or.inl rfl) (pe_op op_sub (pv 4) (pv 6)))))))
    (pss_one (ps_ret (pv 3)))))), ?_⟩
  refine ⟨sz (by show 1 ≤ 100000; decide), fun p1 hp1 => ?_⟩
  have s1 := same_new hp1 (.lst [.int 1])
  refine ⟨_, rfl, p1, _, _, rfl, rfl, upd_same, by omega, by omega, sz (by show 1 * many.toNat ≤ 100000; omega), fun fl hfl => ?_⟩
  have s2 := same_new hfl (.lst (List.replicate many.toNat [V.int 1]).flatten)
  have s12 := s1.trans s2
  have hfl0 : H fl = none := s1.free hfl
  have f1 : upd (upd H p1 (.lst [.int 1])) fl (.lst (List.replicate many.toNat [V.int 1]).flatten) fl = some (.lst ((List.replicate many.toNat (1 : Int)).map V.int)) := by
    rw [upd_same, rep1]
  refine ⟨_, rfl, _, rfl, _, _, rfl, rfl, ?_⟩
  refine ⟨_, rfl, many, rfl, by omega, by omega, ?_⟩
  have ntp : fl ≠ tp := by
    obtain ⟨z, hz⟩ := ht
    exact (ne_of_none hz hfl0).symm
  refine for_range (lo := 0) (n := many.toNat) (fun i σ H' => ∃ left o5 o6 xs, σ = [some (.ref tp), some (.int room), some (.int many), some (.ref fl), some (.int left), o5, o6] ∧ But1 tp H H' ∧ Tp H' tp ∧ H' fl = some (.lst ((xs : List Int).map V.int)) ∧
    (xs.length : Int) = many ∧ (∀ x ∈ xs, (1 : Int) ≤ x) ∧ xs.sum + left = room ∧ 0 ≤ left) ?_ ?_ ?_
  · refine ⟨_, _, _, List.replicate many.toNat 1, rfl, but_same s12, ht.same s12, f1, ?_, ?_, ?_, by omega⟩
    · rw [List.length_replicate]
      omega
    · intro x hx
      rw [(List.mem_replicate.mp hx).2]
      decide
    · rw [sum1]
      omega
  · rintro i σ H1 hi ⟨left, o5, o6, xs, rfl, k1, t1, g1, g2, g3, g4, g5⟩
    refine ⟨_, rfl, _, rfl, _, _, rfl, rfl, tp, _, rfl, t1, by omega, ?_, fun r H2 r0 r1 k2 t2 => ?_⟩
    · have : xs.sum ≥ 0 := by
        clear g1 g2 g4
        induction xs with
        | nil => decide
        | cons x r ih =>
          have e1 := g3 x List.mem_cons_self
          have e2 := ih fun y hy => g3 y (List.mem_cons_of_mem _ hy)
          rw [List.sum_cons]
          omega
      omega
    have g6 := k2 _ _ ntp g1
    have hi2 : i < xs.length := by omega
    have hx : xs[i]? = some xs[i] := List.getElem?_eq_getElem hi2
    have e0 : (0 : Int) + (i : Nat) = ((i : Nat) : Int) := by omega
    refine ⟨_, rfl, _, rfl, fl, _, _, .int xs[i], rfl, rfl, SqL.of g6, ?_, _, rfl, _, _, rfl, rfl, ?_⟩
    · rw [e0]
      exact atI_nat (by rw [List.getElem?_map, hx]; rfl)
    refine ⟨_, rfl, _, rfl, fl, _, _, i, rfl, rfl, g6, ?_, ?_⟩
    · rw [e0, List.length_map]
      unfold ixN
      rw [if_pos (by omega), if_pos (by omega)]
      rfl
    refine ⟨_, rfl, _, rfl, _, _, rfl, rfl, ?_⟩
    refine ⟨_, _, _, xs.set i (xs[i] + r), rfl, fun b o n h => ?_, ?_, ?_, ?_, ?_, ?_, by omega⟩
    · by_cases e : b = fl
      · subst e
        rw [hfl0] at h
        cases h
      · rw [upd_ne e]
        exact k2 _ _ n (k1 _ _ n h)
    · obtain ⟨z, hz⟩ := t2
      exact ⟨z, by rw [upd_ne (Ne.symm ntp)]; exact hz⟩
    · rw [upd_same, List.map_set]
    · rw [List.length_set]
      exact g2
    · intro x hx'
      rcases List.mem_or_eq_of_mem_set hx' with z | z
      · exact g3 x z
      · have := g3 _ (List.getElem_mem hi2)
        omega
    · rw [sum_set hx]
      omega
  · rintro σ H1 ⟨left, o5, o6, xs, rfl, k1, t1, g1, g2, g3, g4, g5⟩
    exact ⟨_, rfl, q fl xs H1 k1 t1 hfl0 g1 g2 g3 (by omega)⟩
/-! ### _law_less_one -/
theorem simple_mkL {h : Hd} {ts : List Tm} (a : flatHd h = true) (b : ∀ t ∈ ts, simple t = true) : simple (mkL h ts) = true := by
  unfold mkL simple
  rw [a, Bool.true_and, List.all_eq_true]
  intro x hx
  obtain ⟨i, rfl⟩ := List.mem_ofFn.mp hx
  exact b _ (List.get_mem ts i)
def spLess : Sp := fun vs H Q _ => ∃ (ar : Addr) (xs : List Str), vs = [.ref ar] ∧ Wls H ar xs ∧ ∀ a t H', Same H H' → (∀ hd, Gd H' a 3 2 hd xs [] t) → simple t = true → Q (.ref a) H'
abbrev s_law_less_one : Stmt := top 15
theorem scLless_one : FnScope ["around"] ["around"] (defScope s_law_less_one) := ⟨rfl, rfl, rfl, by decide +kernel, rfl, by decide +kernel, by decide +kernel⟩
theorem ok_less {f : Addr} {fd : FuncData} (F : Fun K "_law_less_one" "_law_less_one" s_law_less_one f fd) : FnOk P w K mg base CX0 1 f fd ["around"] spLess := by
  refine F.ok scLless_one (fun vs H Q E h => ?_) (fun cdv A outer s H vs Q E hr h => ?_)
  · obtain ⟨ar, xs, rfl, _⟩ := h
    rfl
  obtain ⟨ar, xs, rfl, hw, q⟩ := h
  refine ⟨_, (pss_cons (ps_if (pt_cmpR (op_eqD hr.units) (pv 0) (pe_lst pa_nil) (nomark _)) (pss_one (ps_ret (pe_tup (pa_cons pe_str (pa_cons pe_int pa_nil))))) pss_nil)
    (pss_one (ps_ret (pe_tup (pa_cons pe_str (pa_cons (pe_tup (pa_cons pe_str (pa_cons (pe_ix ix_list (pv 0) pe_int (fun _ _ => rfl)) pa_nil))) (pa_cons (pe_tup (pa_cons pe_str (pa_cons pe_int pa_nil))) pa_nil))))))), ?_⟩
  refine ⟨_, rfl, sz (by show 0 ≤ 100000; decide), fun p0 hp0 => ?_⟩
  have s0 := same_new hp0 (.lst [])
  refine ⟨.list (xs.map PyData.str), .list [], .lst (SqL.of (s0 _ _ hw.1)) (dp_strs xs), .lst (SqL.of upd_same) .nil, shaped_strs hw.2, rfl, _, rfl, ?_⟩
  rw [eqv_nil]
  cases xs with
  | nil =>
    refine iteT ⟨sz (by show 2 ≤ 100000; decide), fun p hp => ?_⟩
    exact q p (mkL (.num 0) []) _ (s0.trans (same_new hp _)) (fun _ => (gd_num ⟨rfl, upd_same⟩ (by decide)).le (by decide) (by decide)) (simple_mkL rfl (fun _ z => nomatch z))
  | cons x0 xr =>
    refine iteF ⟨_, rfl, ar, _, _, _, rfl, rfl, SqL.of (s0 _ _ hw.1), at0, sz (by show 2 ≤ 100000; decide), fun p1 hp1 => ?_⟩
    have s1 := same_new hp1 (.tup [.str "name", .str x0])
    refine ⟨sz (by show 2 ≤ 100000; decide), fun p2 hp2 => ?_⟩
    have s2 := same_new hp2 (.tup [.str "number", .int 1])
    refine ⟨sz (by show 3 ≤ 100000; decide), fun p3 hp3 => ?_⟩
    have s3 := same_new hp3 (.tup [.str "less", .ref p1, .ref p2])
    have s23 := s2.trans s3
    have l1 : Lay _ p1 (.nam x0) [] := ⟨rfl, s23 _ _ upd_same⟩
    have l2 : Lay _ p2 (.num 1) [] := ⟨rfl, s3 _ _ upd_same⟩
    refine q p3 (mkL .less [mkL (.nam x0) [], mkL (.num 1) []]) _ (s0.trans (s1.trans s23)) (fun hd => ?_) (simple_mkL rfl fun t ht => by
      simp only [List.mem_cons, List.not_mem_nil, or_false] at ht
      rcases ht with z | z <;> subst z <;> exact simple_mkL rfl (fun _ z => nomatch z))
    have g1 := gd_nam (hd := hd) (xs := x0 :: xr) l1 (hw.2 x0 List.mem_cons_self) List.mem_cons_self
    have g2 := gd_num (hd := hd) (xs := x0 :: xr) l2 (by decide)
    refine ⟨?_, ?_, ?_, ?_, ?_, ?_⟩
    · exact at_mkL (vs := [.ref p1, .ref p2]) ⟨rfl, upd_same⟩ ⟨⟨p1, rfl, g1.at_⟩, ⟨p2, rfl, g2.at_⟩, trivial⟩
    · refine ok_mkL trivial fun t ht => ?_
      simp only [List.mem_cons, List.not_mem_nil, or_false] at ht
      rcases ht with z | z
      · subst z
        exact g1.ok
      · subst z
        exact g2.ok
    · have c1 := g1.cn
      have c2 := g2.cn
      rw [cnt_mkL, cnts_cons, cnts_cons]
      show 1 + (_ + (_ + 0)) ≤ 3
      omega
    · refine ht_mkL fun t ht => ?_
      simp only [List.mem_cons, List.not_mem_nil, or_false] at ht
      rcases ht with z | z
      · subst z
        exact g1.dp
      · subst z
        exact g2.dp
    · refine sc_mkL trivial fun i t hi => ?_
      match i, hi with
      | 0, hi =>
        cases (Option.some.inj hi)
        exact g1.sc
      | 1, hi =>
        cases (Option.some.inj hi)
        exact g2.sc
      | i + 2, hi => simp at hi
    · rw [lt_mkL, letsL_cons, letsL_cons, g1.lt, g2.lt]
      rfl
end
end KB

namespace KB
open PySem L2

/-! ### parts of turned books as data -/
inductive Pt
  | give (j : Str) (t : Tm)
  | ask (f : Str) (ts : List Tm) (j : Str)
  | tell (x : Str) (t : Tm) (p : Pt)
  | lett (x : Str) (t : Tm) (p : Pt)
  | iff (t : Tm) (p q : Pt)
  | post (j x : Str) (p q : Pt)
def RefV (H : Hp) (t : Tm) (v : V) : Prop := ∃ b, v = .ref b ∧ At H t b
def PAt (H : Hp) : Pt → Addr → Prop
  | .give j t, a => ∃ b, H a = some (.tup [.str "give", .str j, .ref b]) ∧ At H t b
  | .ask f ts j, a => ∃ q vs, H a = some (.tup [.str "ask", .str f, .ref q, .str j]) ∧ H q = some (.tup vs) ∧ All2 (RefV H) ts vs
  | .tell x t p, a => ∃ b c, H a = some (.tup [.str "tell", .str x, .ref b, .ref c]) ∧ At H t b ∧ PAt H p c
  | .lett x t p, a => ∃ b c, H a = some (.tup [.str "let", .str x, .ref b, .ref c]) ∧ At H t b ∧ PAt H p c
  | .iff t p q, a => ∃ b c d, H a = some (.tup [.str "if", .ref b, .ref c, .ref d]) ∧ At H t b ∧ PAt H p c ∧ PAt H q d
  | .post j x p q, a => ∃ c d, H a = some (.tup [.str "post", .str j, .str x, .ref c, .ref d]) ∧ PAt H p c ∧ PAt H q d
theorem RefV.tk {H H' : Hp} (k : TK H H') {t : Tm} {v : V} (h : RefV H t v) : RefV H' t v := let ⟨b, e, g⟩ := h; ⟨b, e, g.tk k⟩
theorem PAt.tk {H H' : Hp} (k : TK H H') : ∀ {p : Pt} {a : Addr}, PAt H p a → PAt H' p a
  | .give j t, a, ⟨b, h1, h2⟩ => ⟨b, k _ _ h1, h2.tk k⟩
  | .ask f ts j, a, ⟨q, vs, h1, h2, h3⟩ => ⟨q, vs, k _ _ h1, k _ _ h2, h3.imp fun _ _ z => z.tk k⟩
  | .tell x t p, a, ⟨b, c, h1, h2, h3⟩ => ⟨b, c, k _ _ h1, h2.tk k, PAt.tk k h3⟩
  | .lett x t p, a, ⟨b, c, h1, h2, h3⟩ => ⟨b, c, k _ _ h1, h2.tk k, PAt.tk k h3⟩
  | .iff t p q, a, ⟨b, c, d, h1, h2, h3, h4⟩ => ⟨b, c, d, k _ _ h1, h2.tk k, PAt.tk k h3, PAt.tk k h4⟩
  | .post j x p q, a, ⟨c, d, h1, h2, h3⟩ => ⟨c, d, k _ _ h1, PAt.tk k h2, PAt.tk k h3⟩
/-- a simple term within words -/
structure SmT (hd : Str → Option Nat) (xs : List Str) (t : Tm) : Prop where
  ok : okT t
  si : simple t = true
  sc : okS hd t xs
  cn : cnt t ≤ 3
  ht : HtLe 2 t
def okP (hd : Str → Option Nat) : Pt → List Str → List Str → Prop
  | .give j t, xs, hs => j ∈ hs ∧ SmT hd xs t
  | .ask f ts j, xs, hs => j ∈ hs ∧ isW f = true ∧ hd f = some ts.length ∧ ts.length ≤ 4 ∧ ∀ t ∈ ts, SmT hd xs t
  | .tell x t p, xs, hs => isW x = true ∧ SmT hd xs t ∧ okP hd p (xs ++ [x]) hs
  | .lett x t p, xs, hs => isW x = true ∧ SmT hd xs t ∧ okP hd p (xs ++ [x]) hs
  | .iff t p q, xs, hs => SmT hd xs t ∧ okP hd p xs hs ∧ okP hd q xs hs
  | .post j x p q, xs, hs => isW j = true ∧ isW x = true ∧ okP hd p (xs ++ [x]) hs ∧ okP hd q xs (hs ++ [j])
def pcnt : Pt → Nat
  | .give _ _ => 1
  | .ask _ _ _ => 1
  | .tell _ _ p => 1 + pcnt p
  | .lett _ _ p => 1 + pcnt p
  | .iff _ p q => 1 + pcnt p + pcnt q
  | .post _ _ p q => 1 + pcnt p + pcnt q
/-- the words and the posts' words that a part binds, as they are met -/
def wP : Pt → List Str
  | .give _ _ => []
  | .ask _ _ _ => []
  | .tell x _ p => x :: wP p
  | .lett x _ p => x :: wP p
  | .iff _ p q => wP p ++ wP q
  | .post _ x p q => x :: (wP p ++ wP q)
def jP : Pt → List Str
  | .give _ _ => []
  | .ask _ _ _ => []
  | .tell _ _ p => jP p
  | .lett _ _ p => jP p
  | .iff _ p q => jP p ++ jP q
  | .post j _ p q => j :: (jP p ++ jP q)

/-! ### what the generator of parts has at hand -/
def But3 (tp wl pl : Addr) (H H' : Hp) : Prop := ∀ b o, b ≠ tp → b ≠ wl → b ≠ pl → H b = some o → H' b = some o
theorem But3.refl (tp wl pl : Addr) (H : Hp) : But3 tp wl pl H H := fun _ _ _ _ _ h => h
theorem But3.trans {tp wl pl : Addr} {H H1 H2 : Hp} (a : But3 tp wl pl H H1) (b : But3 tp wl pl H1 H2) : But3 tp wl pl H H2 := fun x o n m l h => b x o n m l (a x o n m l h)
theorem But1.three {tp wl pl : Addr} {H H' : Hp} (a : But1 tp H H') : But3 tp wl pl H H' := fun x o n _ _ h => a x o n h
theorem but3_same {tp wl pl : Addr} {H H' : Hp} (e : Same H H') : But3 tp wl pl H H' := fun b o _ _ _ h => e b o h
abbrev kgE : Key := Sum.inr "errands"
abbrev kgH : Key := Sum.inr "heads"
abbrev kgW : Key := Sum.inr "words"
abbrev kgR : Key := Sum.inr "room"
abbrev kgP : Key := Sum.inr "posts"
abbrev kgS : Key := Sum.inr "straight"
def knT (el hd wl pl : Addr) (room : Int) (st : Bool) : List (Key × V) := [(kgE, .ref el), (kgH, .ref hd), (kgW, .ref wl), (kgR, .int room), (kgP, .ref pl), (kgS, .bl st)]
structure GT (H : Hp) (tp kd wl pl : Addr) (hF : Str → Option Nat) (ws js : List Str) : Prop where
  t : Tp H tp
  w : Wls H wl ws
  p : Wls H pl js
  wn : ws.length ≤ 100
  pn : js.length ≤ 100
  wp : wl ≠ pl
  k : ∃ el hd fs kvs room st, H kd = some (.dK (knT el hd wl pl room st)) ∧ 1 ≤ room ∧ room ≤ 9 ∧ el ≠ wl ∧ el ≠ pl ∧ Wls H el fs ∧ 0 < fs.length ∧ fs.length ≤ 100 ∧ H hd = some (.dK kvs) ∧ ∀ f ∈ fs, ∃ n : Int, valV kvs (Sum.inr f) = some (.int n) ∧ 0 ≤ n ∧ n ≤ 4 ∧ hF f = some n.toNat
section
variable {H H' : Hp} {tp kd wl pl : Addr} {hF : Str → Option Nat} {ws js ws' js' : List Str}
theorem GT.ntk (g : GT H tp kd wl pl hF ws js) {a : Addr} {o : HO} (h : H a = some o) (hn : ∀ xs, o ≠ .lst xs) : a ≠ tp ∧ a ≠ wl ∧ a ≠ pl := by
  obtain ⟨z, hz⟩ := g.t
  exact ⟨ne_of h hz (hn _), ne_of h g.w.1 (hn _), ne_of h g.p.1 (hn _)⟩
theorem GT.tk (g : GT H tp kd wl pl hF ws js) (b : But3 tp wl pl H H') : TK H H' := fun a _ h => by
  obtain ⟨n1, n2, n3⟩ := g.ntk h (fun _ z => nomatch z)
  exact b a _ n1 n2 n3 h
theorem GT.step (g : GT H tp kd wl pl hF ws js) (b : But3 tp wl pl H H') (t : Tp H' tp) (w : Wls H' wl ws') (p : Wls H' pl js') (wn : ws'.length ≤ 100) (pn : js'.length ≤ 100) : GT H' tp kd wl pl hF ws' js' := by
  obtain ⟨el, hd, fs, kvs, room, st, k1, r1, r2, k2, k2', k3, k4, k5, k6, k7⟩ := g.k
  refine ⟨t, w, p, wn, pn, g.wp, el, hd, fs, kvs, room, st, ?_, r1, r2, k2, k2', ⟨b _ _ (wls_tp k3.1 g.t) k2 k2' k3.1, k3.2⟩, k4, k5, ?_, k7⟩
  · obtain ⟨n1, n2, n3⟩ := g.ntk k1 (fun _ z => nomatch z)
    exact b _ _ n1 n2 n3 k1
  · obtain ⟨n1, n2, n3⟩ := g.ntk k6 (fun _ z => nomatch z)
    exact b _ _ n1 n2 n3 k6
theorem GT.one (g : GT H tp kd wl pl hF ws js) (b : But1 tp H H') (t : Tp H' tp) : GT H' tp kd wl pl hF ws js := g.step b.three t (g.w.but b g.t) (g.p.but b g.t) g.wn g.pn
theorem GT.same (g : GT H tp kd wl pl hF ws js) (e : Same H H') : GT H' tp kd wl pl hF ws js := g.one (but_same e) (g.t.same e)
theorem Wls.three {a : Addr} {xs : List Str} (e : But3 tp wl pl H H') (g : GT H tp kd wl pl hF ws js) (n : a ≠ wl) (m : a ≠ pl) (h : Wls H a xs) : Wls H' a xs := ⟨e _ _ (wls_tp h.1 g.t) n m h.1, h.2⟩
theorem GT.new (g : GT H tp kd wl pl hF ws js) {p : Addr} (h : H p = none) : p ≠ tp ∧ p ≠ wl ∧ p ≠ pl := by
  obtain ⟨z, hz⟩ := g.t
  exact ⟨(ne_of_none hz h).symm, (ne_of_none g.w.1 h).symm, (ne_of_none g.p.1 h).symm⟩
variable {el hd : Addr} {room : Int} {st : Bool}
theorem gt_errands (h : H kd = some (.dK (knT el hd wl pl room st))) : DGet H kd (.str "errands") (some (.ref el)) := DGet.k (k := kgE) h
theorem gt_heads (h : H kd = some (.dK (knT el hd wl pl room st))) : DGet H kd (.str "heads") (some (.ref hd)) := DGet.k (k := kgH) h
theorem gt_words (h : H kd = some (.dK (knT el hd wl pl room st))) : DGet H kd (.str "words") (some (.ref wl)) := DGet.k (k := kgW) h
theorem gt_room (h : H kd = some (.dK (knT el hd wl pl room st))) : DGet H kd (.str "room") (some (.int room)) := DGet.k (k := kgR) h
theorem gt_posts (h : H kd = some (.dK (knT el hd wl pl room st))) : DGet H kd (.str "posts") (some (.ref pl)) := DGet.k (k := kgP) h
theorem gt_straight (h : H kd = some (.dK (knT el hd wl pl room st))) : DGet H kd (.str "straight") (some (.bl st)) := DGet.k (k := kgS) h
end
theorem get_of {H : Hp} {hd : Addr} {kvs : List (Key × V)} {f : Str} {v : V} (h : H hd = some (.dK kvs)) (e : valV kvs (Sum.inr f) = some v) : DGet H hd (.str f) (some v) := by
  have := DGet.k (k := Sum.inr f) h
  rw [e] at this
  exact this
/-- the hand-ons around -/
def Hls (H : Hp) (a : Addr) (hs : List Str) : Prop := H a = some (.lst (hs.map V.str))
end KB

namespace KB
open PySem L2

section
variable {P : Program} {w : World} {K : PySem.W.Frag} {mg : Str → Option Value} {base : Heap}
/-! ### _law_simple -/
/-- a simple term at a, of at most n terms, within d -/
structure GdS (H : Hp) (a : Addr) (n d : Nat) (hd : Str → Option Nat) (xs : List Str) (t : Tm) : Prop where
  g : Gd H a n d hd xs [] t
  s : simple t = true
def spSimple (n : Nat) : Sp := fun vs H Q _ => ∃ (tp ar : Addr) (xs : List Str), vs = [.ref tp, .ref ar, .int n] ∧ Tp H tp ∧ Wls H ar xs ∧ xs.length ≤ 1000 ∧ n ≤ 1 ∧ ∀ a t H', But1 tp H H' → Tp H' tp → (∀ hd, GdS H' a (2 * n + 1) (n + 1) hd xs t) → Q (.ref a) H'
abbrev s_law_simple : Stmt := top 16
theorem scLsimple : FnScope ["tape", "around", "deep", "one"] ["tape", "around", "deep"] (defScope s_law_simple) := ⟨rfl, rfl, rfl, by decide +kernel, rfl, by decide +kernel, by decide +kernel⟩
theorem leaf_simple {H : Hp} {a : Addr} {xs : List Str} {t : Tm} (g : ∀ hd, Gd H a 1 1 hd xs [] t) : simple t = true := by
  have g0 := g fun _ => none
  cases t with
  | mk h n k =>
    have hc := g0.cn
    rw [cnt_mk] at hc
    have hn : n = 0 := by
      cases n with
      | zero => rfl
      | succ m =>
        exfalso
        rw [List.ofFn_succ, cnts_cons] at hc
        have := cnt_pos (k 0)
        omega
    subst hn
    obtain ⟨ys, l, _⟩ := g0.at_
    have hl : (Rfs ys).length = 0 := by
      unfold Rfs
      rw [List.length_ofFn]
    have hs := g0.sc.1
    cases h with
    | num z => rfl
    | nam x => rfl
    | plus => rfl
    | less => rfl
    | tell =>
      have := l.1
      omega
    | lett x =>
      have := l.1
      omega
    | iff =>
      have := l.1
      omega
    | ask f => cases hs
def spPrev : Nat → Sp
  | 0 => fun _ _ _ _ => False
  | n + 1 => spSimple n
theorem two_simple {H : Hp} {p a b : Addr} {hd : Str → Option Nat} {xs : List Str} {h : Hd} {t u : Tm} (hh : h = .plus ∨ h = .less) (g1 : GdS H a 1 1 hd xs t) (g2 : GdS H b 1 1 hd xs u) (hp : H p = some (.tup [.str (hs h), .ref a, .ref b])) : GdS H p 3 2 hd xs (mkL h [t, u]) := by
  have both : ∀ (Pr : Tm → Prop), Pr t → Pr u → ∀ x ∈ [t, u], Pr x := fun Pr h1 h2 x hx => by
    rcases List.mem_cons.mp hx with z | z
    · rw [z]
      exact h1
    · rw [List.mem_singleton.mp z]
      exact h2
  have lay : Lay H p h [.ref a, .ref b] := by
    rcases hh with rfl | rfl
    · exact ⟨rfl, hp⟩
    · exact ⟨rfl, hp⟩
  have c1 := g1.g.cn
  have c2 := g2.g.cn
  refine ⟨⟨at_mkL lay ⟨⟨a, rfl, g1.g.at_⟩, ⟨b, rfl, g2.g.at_⟩, trivial⟩, ok_mkL (by rcases hh with rfl | rfl <;> trivial) (both _ g1.g.ok g2.g.ok), ?_, ht_mkL (both _ g1.g.dp g2.g.dp), ?_, ?_⟩, simple_mkL (by rcases hh with rfl | rfl <;> rfl) (both _ g1.s g2.s)⟩
  · rw [cnt_mkL, cnts_cons, cnts_cons]
    show 1 + (_ + (_ + 0)) ≤ 3
    omega
  · refine sc_mkL (by rcases hh with rfl | rfl <;> trivial) fun i x hi => ?_
    have hin : inn h i xs = xs := by rcases hh with rfl | rfl <;> rfl
    rw [hin]
    exact both (fun y => okS hd y xs) g1.g.sc g2.g.sc x (List.mem_of_getElem? hi)
  · have e1 := g1.g.lt
    have e2 := g2.g.lt
    have : letsOf (mkL h [t, u]) = hdLets h ++ letsL [t, u] := by
      unfold mkL
      rw [lets_mk, ofFn_get]
    rw [this]
    show hdLets h ++ (letsOf t ++ (letsOf u ++ [])) = []
    rw [e1, e2]
    rcases hh with rfl | rfl <;> rfl
theorem GdS.tk {H H' : Hp} {a : Addr} {n d : Nat} {hd : Str → Option Nat} {xs : List Str} {t : Tm} (k : TK H H') (g : GdS H a n d hd xs t) : GdS H' a n d hd xs t := ⟨g.g.tk k, g.s⟩
theorem tp_tk {tp : Addr} {H H' : Hp} (t : Tp H tp) (b : But1 tp H H') : TK H H' := b.tk t
theorem ok_simple (T : Txt K mg) (n : Nat) {f fg fh : Addr} {fd gd hd : FuncData} (F : Fun K "_law_simple" "_law_simple" s_law_simple f fd) (G_law_digit : FnOk P w K mg base CX0 1 fg gd ["tape", "many"] spDig) (R_law_digit : Ref K mg "_law_digit" fg gd ["tape", "many"])
    (G_law_leaf : FnOk P w K mg base CX0 3 fh hd ["tape", "known", "around"] spLeaf) (R_law_leaf : Ref K mg "_law_leaf" fh hd ["tape", "known", "around"])
    (G_law_simple : FnOk P w K mg base CX0 (n + 3) f fd ["tape", "around", "deep"] (spPrev n)) (R_law_simple : Ref K mg "_law_simple" f fd ["tape", "around", "deep"]) : FnOk P w K mg base CX0 (n + 4) f fd ["tape", "around", "deep"] (spSimple n) := by
  refine F.ok scLsimple (fun vs H Q E h => ?_) (fun cdv A outer s H vs Q E hr h => ?_)
  · obtain ⟨tp, ar, xs, rfl, _⟩ := h
    rfl
  obtain ⟨tp, ar, xs, rfl, ht, hw, hx, hn1, q⟩ := h
  refine ⟨_, (pss_cons (ps_if (PW.pt (pw_or (pt_cmpR op_eq (pv 2) pe_int (nomark _)) (pw_or1 (pt_cmpR op_gt (pe_call G_law_digit (hr.mono (by omega)) rfl R_law_digit.m R_law_digit.k R_law_digit.b .nil pass0 (pa_cons (pv 0) (pa_cons pe_int pa_nil))) pe_int (nomark _))))) (pss_one (ps_ret (pe_call G_law_leaf (hr.mono (by omega)) rfl R_law_leaf.m R_law_leaf.k R_law_leaf.b .nil pass0 (pa_cons (pv 0) (pa_cons pe_dnewK (pa_cons (pv 1) pa_nil)))))) pss_nil)
    (pss_cons (ps_set (i := 3) scLsimple.nd rfl (Or.inl rfl) (pe_call G_law_simple (hr.mono (by omega)) rfl R_law_simple.m R_law_simple.k R_law_simple.b .nil pass0 (pa_cons (pv 0) (pa_cons (pv 1) (pa_cons (pe_op op_sub (pv 2) pe_int) pa_nil)))))
    (pss_one (ps_ret (pe_tup (pa_cons (pe_ix ix_list (pe_lst (pa_cons pe_str (pa_cons pe_str pa_nil))) (pe_call G_law_digit (hr.mono (by omega)) rfl R_law_digit.m R_law_digit.k R_law_digit.b .nil pass0 (pa_cons (pv 0) (pa_cons pe_int pa_nil))) (fun _ _ => rfl)) (pa_cons (pv 3) (pa_cons (pe_call G_law_simple (hr.mono (by omega)) rfl R_law_simple.m R_law_simple.k R_law_simple.b .nil pass0 (pa_cons (pv 0) (pa_cons (pv 1) (pa_cons (pe_op op_sub (pv 2) pe_int) pa_nil)))) pa_nil)))))))), ?_⟩
  have leafW : ∀ H1, But1 tp H H1 → Tp H1 tp → (tRet (tCall spLeaf [] E0 (tCons (tVar 0) (tCons tDNewK (tCons (tVar 1) tNil))))) { nx := fun x H' => Q V.non H', rt := Q } [some (.ref tp), some (.ref ar), some (.int n), none] H1 := by
    intro H1 b1 t1
    have w1 := hw.but b1 ht
    refine ⟨_, rfl, fun kv hkv => ⟨_, rfl, ?_⟩⟩
    have s2 := same_new hkv (.dK [])
    refine ⟨tp, .ref kv, ar, xs, rfl, t1.same s2, w1.but (but_same s2) t1, hx, fun a t H3 b3 t3 gd => ?_⟩
    exact q a t H3 ((b1.trans (but_same s2)).trans b3) t3 fun hd => ⟨(gd hd).le (by omega) (by omega), leaf_simple gd⟩
  refine ⟨_, rfl, rfl, _, rfl, ?_⟩
  cases n with
  | zero => exact itT rfl (iteT (leafW H (But1.refl _ _) ht))
  | succ n =>
    have hn0 : n = 0 := by omega
    subst hn0
    refine itF rfl ⟨_, rfl, tp, 3, rfl, ht, by decide, by decide, fun r H1 r0 r1 b1 t1 => ?_⟩
    refine ⟨_, _, rfl, rfl, _, rfl, ?_⟩
    refine ite2 (fun c => leafW H1 b1 t1) (fun c => ?_)
    have w1 := hw.but b1 ht
    refine ⟨_, rfl, _, rfl, _, rfl, _, _, rfl, rfl, tp, ar, xs, rfl, t1, w1, hx, Nat.zero_le _, fun a1 u1 H2 b2 t2 g1 => ?_⟩
    have w2 := w1.but b2 t1
    refine ⟨sz (by show 2 ≤ 100000; decide), fun p3 hp3 => ?_⟩
    have s3 := same_new hp3 (.lst [V.str "plus", .str "less"])
    have np : p3 ≠ tp := by
      obtain ⟨z, hz⟩ := t2
      exact (ne_of_none hz hp3).symm
    have h3 : upd H2 p3 (.lst [V.str "plus", .str "less"]) p3 = some (.lst [V.str "plus", .str "less"]) := upd_same
    have t3 := t2.same s3
    have w3 := w2.but (but_same s3) t2
    refine ⟨_, rfl, tp, 2, rfl, t3, by decide, by decide, fun r4 H4 r40 r41 b4 t4 => ?_⟩
    obtain ⟨v, hv, hm⟩ := at_some (xs := [V.str "plus", .str "less"]) r40 r41
    obtain ⟨h, hh, rfl⟩ : ∃ h : Hd, (h = .plus ∨ h = .less) ∧ v = .str (hs h) := by
      rcases List.mem_cons.mp hm with z | z
      · exact ⟨.plus, .inl rfl, z⟩
      · exact ⟨.less, .inr rfl, List.mem_singleton.mp z⟩
    have w4 := w3.but b4 t3
    refine ⟨p3, _, _, _, rfl, rfl, SqL.of (b4 _ _ np h3), hv, _, rfl, _, rfl, _, rfl, _, rfl, _, _, rfl, rfl, tp, ar, xs, rfl, t4, w4, hx, Nat.zero_le _, fun a2 u2 H5 b5 t5 g2 => ?_⟩
    refine ⟨sz (by show 3 ≤ 100000; decide), fun p6 hp6 => ?_⟩
    have s6 := same_new hp6 (.tup [V.str (hs h), .ref a1, .ref a2])
    have k25 : TK H2 H5 := (tp_tk t2 (but_same s3)).trans ((tp_tk t3 b4).trans (tp_tk t4 b5))
    refine q p6 (mkL h [u1, u2]) _ (((((b1.trans b2).trans (but_same s3)).trans b4).trans b5).trans (but_same s6)) (t5.same s6) fun hd => ?_
    exact two_simple hh ((g1 hd).tk (k25.trans (tk_same s6))) ((g2 hd).tk (tk_same s6)) upd_same
theorem no_sp {k : Nat} {f : Addr} {fd : FuncData} {ps : List Str} : FnOk P w K mg base CX0 k f fd ps (fun _ _ _ _ => False) := ⟨fun _ _ _ _ z => z.elim, fun _ _ _ _ _ _ _ _ _ _ _ _ _ z => z.elim⟩
theorem all_simple (T : Txt K mg) {f fg fh : Addr} {fd gd hd : FuncData} (F : Fun K "_law_simple" "_law_simple" s_law_simple f fd) (G_law_digit : FnOk P w K mg base CX0 1 fg gd ["tape", "many"] spDig) (R_law_digit : Ref K mg "_law_digit" fg gd ["tape", "many"])
    (G_law_leaf : FnOk P w K mg base CX0 3 fh hd ["tape", "known", "around"] spLeaf) (R_law_leaf : Ref K mg "_law_leaf" fh hd ["tape", "known", "around"]) (R_law_simple : Ref K mg "_law_simple" f fd ["tape", "around", "deep"]) : FnOk P w K mg base CX0 5 f fd ["tape", "around", "deep"] (spSimple 1) :=
  ok_simple T 1 F G_law_digit R_law_digit G_law_leaf R_law_leaf (ok_simple T 0 F G_law_digit R_law_digit G_law_leaf R_law_leaf no_sp R_law_simple) R_law_simple
end
end KB

namespace KB
open PySem L2

section
variable {P : Program} {w : World} {K : PySem.W.Frag} {mg : Str → Option Value} {base : Heap}
/-! ### _law_some_hand -/
def spHand : Sp := fun vs H Q _ => ∃ (tp kd wl pl hl : Addr) (hF : Str → Option Nat) (ws js hs : List Str), vs = [.ref tp, .ref kd, .ref hl] ∧ GT H tp kd wl pl hF ws js ∧ Hls H hl hs ∧ hs ≠ [] ∧ hs.length ≤ 1000 ∧ hl ≠ tp ∧
  ∀ j H', But1 tp H H' → Tp H' tp → j ∈ hs → Q (.str j) H'
abbrev s_law_some_hand : Stmt := top 17
theorem scLsome_hand : FnScope ["tape", "known", "hands"] ["tape", "known", "hands"] (defScope s_law_some_hand) := ⟨rfl, rfl, rfl, by decide +kernel, rfl, by decide +kernel, by decide +kernel⟩
theorem ok_hand (T : Txt K mg) {f fg : Addr} {fd gd : FuncData} (F : Fun K "_law_some_hand" "_law_some_hand" s_law_some_hand f fd) (G_law_digit : FnOk P w K mg base CX0 1 fg gd ["tape", "many"] spDig) (R_law_digit : Ref K mg "_law_digit" fg gd ["tape", "many"]) :
    FnOk P w K mg base CX0 2 f fd ["tape", "known", "hands"] spHand := by
  refine F.ok scLsome_hand (fun vs H Q E h => ?_) (fun cdv A outer s H vs Q E hr h => ?_)
  · obtain ⟨tp, kd, wl, pl, hl, hF, ws, js, hs, rfl, _⟩ := h
    rfl
  obtain ⟨tp, kd, wl, pl, hl, hF, ws, js, hs, rfl, g, hh, hne, hlen, hn, q⟩ := h
  refine ⟨_, (pss_cons (ps_if (PW.pt (pw_or (pt_truth (pe_dget (hu_of hr) (pv 1) pe_str (fun _ _ => rfl)) (by intro _; rfl)) (pw_or1 (pt_cmpR op_gt (pe_call G_law_digit (hr.mono (by omega)) rfl R_law_digit.m R_law_digit.k R_law_digit.b .nil pass0 (pa_cons (pv 0) (pa_cons pe_int pa_nil))) pe_int (nomark _))))) (pss_one (ps_ret (pe_ix ix_list (pv 2) (pe_un un_neg pe_int) (fun _ _ => rfl)))) pss_nil)
    (pss_one (ps_ret (pe_ix ix_list (pv 2) (pe_call G_law_digit (hr.mono (by omega)) rfl R_law_digit.m R_law_digit.k R_law_digit.b .nil pass0 (pa_cons (pv 0) (pa_cons (pe_callB call_len_seq (by rfl) T.m_len PySem.boot_len (pa_cons (pv 2) pa_nil)) pa_nil))) (fun _ _ => rfl))))), ?_⟩
  obtain ⟨el, hd, fs, kvs, room, st, k1, _⟩ := g.k
  obtain ⟨r, j, rfl⟩ : ∃ r j, hs = r ++ [j] := ⟨hs.dropLast, hs.getLast hne, (List.dropLast_concat_getLast hne).symm⟩
  have em : (r ++ [j]).map V.str = r.map V.str ++ [V.str j] := by
    rw [List.map_append]
    rfl
  have lastW : ∀ H1, But1 tp H H1 → Tp H1 tp → (tRet (tOp (rIxL K) (tVar 2) (tUn (rU fun i => .int (-i)) (tC (.int 1))))) { nx := fun x H' => Q V.non H', rt := Q } [some (.ref tp), some (.ref kd), some (.ref hl)] H1 := by
    intro H1 b1 t1
    have h1 : H1 hl = some (.lst (r.map V.str ++ [V.str j])) := by
      rw [← em]
      exact b1 _ _ hn hh
    exact ⟨_, rfl, _, rfl, hl, _, _, _, rfl, rfl, SqL.of h1, atI_last _ _, q j H1 b1 t1 (List.mem_append_right _ List.mem_cons_self)⟩
  refine ⟨_, rfl, kd, _, rfl, gt_straight k1, st, rfl, ?_⟩
  cases st with
  | true => exact itT rfl (iteT (lastW H (But1.refl _ _) g.t))
  | false =>
    refine itF rfl ⟨_, rfl, tp, 3, rfl, g.t, by decide, by decide, fun r1 H1 r10 r11 b1 t1 => ?_⟩
    refine ⟨_, _, rfl, rfl, _, rfl, ?_⟩
    refine ite2 (fun c => lastW H1 b1 t1) (fun c => ?_)
    have h1 : H1 hl = some (.lst ((r ++ [j]).map V.str)) := b1 _ _ hn hh
    have el1 : (((r ++ [j]).map V.str).length : Int) = ((r ++ [j]).length : Int) := by rw [List.length_map]
    have pos : 0 < (r ++ [j]).length := by simp
    refine ⟨_, rfl, _, rfl, _, rfl, hl, _, rfl, .inl (SqL.of h1), tp, _, rfl, t1, by rw [el1]; omega, by rw [el1]; omega, fun r2 H2 r20 r21 b2 t2 => ?_⟩
    obtain ⟨v, hv, hm⟩ := at_some r20 r21
    obtain ⟨z, hz, rfl⟩ := List.mem_map.mp hm
    exact ⟨hl, _, _, _, rfl, rfl, SqL.of (b2 _ _ hn h1), hv, q z H2 (b1.trans b2) t2 hz⟩
end
end KB

namespace KB
open PySem L2

theorem GdS.sm {H : Hp} {a : Addr} {hd : Str → Option Nat} {xs : List Str} {t : Tm} (g : GdS H a 3 2 hd xs t) : SmT hd xs t := ⟨g.g.ok, g.s, g.g.sc, g.g.cn, g.g.dp⟩
section
variable {P : Program} {w : World} {K : PySem.W.Frag} {mg : Str → Option Value} {base : Heap}
/-! ### _law_end -/
def spEnd : Sp := fun vs H Q _ => ∃ (tp kd wl pl ar hl : Addr) (hF : Str → Option Nat) (ws js xs hs : List Str), vs = [.ref tp, .ref kd, .ref ar, .ref hl] ∧ GT H tp kd wl pl hF ws js ∧ Wls H ar xs ∧ xs.length ≤ 1000 ∧ Hls H hl hs ∧ hs ≠ [] ∧ hs.length ≤ 1000 ∧ hl ≠ tp ∧
  ∀ a p H', But1 tp H H' → Tp H' tp → PAt H' p a → okP hF p xs hs → pcnt p = 1 → wP p = [] → jP p = [] → Q (.ref a) H'
abbrev s_law_end : Stmt := top 18
theorem scLend : FnScope ["tape", "known", "around", "hands", "f", "hand", "some", "k"] ["tape", "known", "around", "hands"] (defScope s_law_end) := ⟨rfl, rfl, rfl, by decide +kernel, rfl, by decide +kernel, by decide +kernel⟩
theorem ok_end (T : Txt K mg) {f fg fh fl fs : Addr} {fd gd hd ld sd : FuncData} (F : Fun K "_law_end" "_law_end" s_law_end f fd) (G_law_digit : FnOk P w K mg base CX0 1 fg gd ["tape", "many"] spDig) (R_law_digit : Ref K mg "_law_digit" fg gd ["tape", "many"])
    (G_law_some_hand : FnOk P w K mg base CX0 2 fh hd ["tape", "known", "hands"] spHand) (R_law_some_hand : Ref K mg "_law_some_hand" fh hd ["tape", "known", "hands"]) (G_law_less_one : FnOk P w K mg base CX0 1 fl ld ["around"] spLess) (R_law_less_one : Ref K mg "_law_less_one" fl ld ["around"])
    (G_law_simple : FnOk P w K mg base CX0 5 fs sd ["tape", "around", "deep"] (spSimple 1)) (R_law_simple : Ref K mg "_law_simple" fs sd ["tape", "around", "deep"]) : FnOk P w K mg base CX0 6 f fd ["tape", "known", "around", "hands"] spEnd := by
  refine F.ok scLend (fun vs H Q E h => ?_) (fun cdv A outer s H vs Q E hr h => ?_)
  · obtain ⟨tp, kd, wl, pl, ar, hl, hF, ws, js, xs, hs, rfl, _⟩ := h
    rfl
  obtain ⟨tp, kd, wl, pl, ar, hl, hF, ws, js, xs, hs, rfl, g, hw, hx, hh, hne, hhl, hnt, q⟩ := h
  refine ⟨_, (pss_cons (ps_set (i := 4) scLend.nd rfl (Or.inl rfl) (pe_ix ix_list (pe_dget (hu_of hr) (pv 1) pe_str (fun _ _ => rfl)) (pe_call G_law_digit (hr.mono (by omega)) rfl R_law_digit.m R_law_digit.k R_law_digit.b .nil pass0 (pa_cons (pv 0) (pa_cons (pe_callB call_len_seq (by rfl) T.m_len PySem.boot_len (pa_cons (pe_dget (hu_of hr) (pv 1) pe_str (fun _ _ => rfl)) pa_nil)) pa_nil))) (fun _ _ => rfl)))
    (pss_cons (ps_set (i := 5) scLend.nd rfl (Or.inl rfl) (pe_call G_law_some_hand (hr.mono (by omega)) rfl R_law_some_hand.m R_law_some_hand.k R_law_some_hand.b .nil pass0 (pa_cons (pv 0) (pa_cons (pv 1) (pa_cons (pv 3) pa_nil)))))
    (pss_cons (ps_if (pt_cmpR op_eq (pe_call G_law_digit (hr.mono (by omega)) rfl R_law_digit.m R_law_digit.k R_law_digit.b .nil pass0 (pa_cons (pv 0) (pa_cons pe_int pa_nil))) pe_int (nomark _)) (pss_one (ps_ret (pe_tup (pa_cons pe_str (pa_cons (pv 5) (pa_cons (pe_call G_law_simple (hr.mono (by omega)) rfl R_law_simple.m R_law_simple.k R_law_simple.b .nil pass0 (pa_cons (pv 0) (pa_cons (pv 2) (pa_cons pe_int pa_nil)))) pa_nil)))))) pss_nil)
    (pss_cons (ps_set (i := 6) scLend.nd rfl (Or.inl rfl) (pe_lst pa_nil))
    (pss_cons (ps_for PassesOwn.never rfl (pi_range1 rfl T.m_range (pa_cons (pe_dget (hu_of hr) (pe_dget (hu_of hr) (pv 1) pe_str (fun _ _ => rfl)) (pv 4) (fun _ _ => rfl)) pa_nil)) (pg_name (i := 7) scLend.nd rfl (Or.inl rfl)) (pss_one (ps_if (PW.pt (pw_and (pt_cmpR op_eq (pv 7) pe_int (nomark _)) (pw_and1 (pt_cmpR op_gt (pe_call G_law_digit (hr.mono (by omega)) rfl R_law_digit.m R_law_digit.k R_law_digit.b .nil pass0 (pa_cons (pv 0) (pa_cons pe_int pa_nil))) pe_int (nomark _))))) (pss_one (ps_expr (pe_bm PySem.F.plainAttrs_list PySem.F.slot_list_append PySem.F.type_list_append mt_append (pv 6) (pa_cons (pe_call G_law_less_one (hr.mono (by omega)) rfl R_law_less_one.m R_law_less_one.k R_law_less_one.b .nil pass0 (pa_cons (pv 2) pa_nil)) pa_nil)))) (pss_one (ps_expr (pe_bm PySem.F.plainAttrs_list PySem.F.slot_list_append PySem.F.type_list_append mt_append (pv 6) (pa_cons (pe_call G_law_simple (hr.mono (by omega)) rfl R_law_simple.m R_law_simple.k R_law_simple.b .nil pass0 (pa_cons (pv 0) (pa_cons (pv 2) (pa_cons pe_int pa_nil)))) pa_nil)))))))
    (pss_one (ps_ret (pe_tup (pa_cons pe_str (pa_cons (pv 4) (pa_cons (pe_callTy call_tuple_of (by rfl) T.m_tuple (by decide +kernel) (pa_cons (pv 6) pa_nil)) (pa_cons (pv 5) pa_nil)))))))))))), ?_⟩
  obtain ⟨el, hd', fs, kvs, room, st, k1, _, _, _, _, k3, k4, k5, k6, k7⟩ := g.k
  refine ⟨_, rfl, kd, _, rfl, gt_errands k1, _, rfl, _, rfl, kd, _, rfl, gt_errands k1, el, _, rfl, .inl (SqL.of k3.1), tp, _, rfl, g.t, ?_, ?_, fun r H1 r0 r1 b1 t1 => ?_⟩
  · rw [List.length_map]
    omega
  · rw [List.length_map]
    omega
  have g1 := g.one b1 t1
  have k3' := k3.but b1 g.t
  have nkt := (g.ntk k1 (fun _ z => nomatch z)).1
  have nht := (g.ntk k6 (fun _ z => nomatch z)).1
  obtain ⟨v, hv, hm⟩ := at_some r0 r1
  obtain ⟨fn, hfn, rfl⟩ := List.mem_map.mp hm
  obtain ⟨many, hmany, m0, m4, mF⟩ := k7 fn hfn
  have hwfn := k3.2 fn hfn
  refine ⟨el, _, _, _, rfl, rfl, SqL.of k3'.1, hv, ?_⟩
  -- the hand
  refine ⟨_, rfl, _, rfl, _, rfl, tp, kd, wl, pl, hl, hF, ws, js, hs, rfl, g1, b1 _ _ hnt hh, hne, hhl, hnt, fun j H2 b2 t2 hj => ?_⟩
  have b12 := b1.trans b2
  refine ⟨_, rfl, tp, 2, rfl, t2, by decide, by decide, fun r3 H3 r30 r31 b3 t3 => ⟨rfl, _, rfl, ?_⟩⟩
  have b13 := b12.trans b3
  have w3 := hw.but b13 g.t
  refine ite2 (fun c => ?_) (fun c => ?_)
  · -- a give
    refine ⟨_, rfl, _, rfl, _, rfl, tp, ar, xs, rfl, t3, w3, hx, Nat.le_refl _, fun a t H4 b4 t4 gs => ⟨sz (by show 3 ≤ 100000; decide), fun p5 hp5 => ?_⟩⟩
    have s5 := same_new hp5 (.tup [V.str "give", .str j, .ref a])
    exact q p5 (.give j t) _ ((b13.trans b4).trans (but_same s5)) (t4.same s5) ⟨a, upd_same, (gs hF).g.at_.mono s5⟩ ⟨hj, (gs hF).sm⟩ rfl rfl rfl
  · -- an ask
    refine ⟨sz (by show 0 ≤ 100000; decide), fun sl hsl => ?_⟩
    have s4 := same_new hsl (.lst [])
    have nst : sl ≠ tp := by
      obtain ⟨z, hz⟩ := t3
      exact (ne_of_none hz hsl).symm
    have b14 := b13.trans (but_same s4)
    have t4 := t3.same s4
    have h4 : upd H3 sl (.lst []) sl = some (.lst []) := upd_same
    have frS : H3 sl = none := hsl
    have w4 := w3.but (but_same s4) t3
    have sH4 : Same H3 (upd H3 sl (.lst [])) := s4
    generalize upd H3 sl (.lst []) = H4 at b14 t4 h4 w4 sH4 ⊢
    have nsar : ar ≠ sl := ne_of_none w3.1 frS
    refine ⟨_, rfl, kd, _, rfl, gt_heads (b14 _ _ nkt k1), _, rfl, hd', _, rfl, get_of (b14 _ _ nht k6) hmany, _, rfl, by omega, by omega, ?_⟩
    refine for_range (lo := 0) (n := many.toNat) (fun i σ H' => ∃ o7 vs ts, σ = [some (.ref tp), some (.ref kd), some (.ref ar), some (.ref hl), some (.str fn), some (.str j), some (.ref sl), o7] ∧ (∀ b o, b ≠ tp → b ≠ sl → H4 b = some o → H' b = some o) ∧ Tp H' tp ∧
      H' sl = some (.lst vs) ∧ All2 (RefV H') ts vs ∧ ts.length = i ∧ ∀ t ∈ ts, SmT hF xs t) ⟨_, [], [], rfl, fun _ _ _ _ z => z, t4, h4, trivial, rfl, fun _ z => nomatch z⟩ ?_ ?_
    · rintro i σ H5 hi ⟨o7, vs, ts, rfl, b5, t5, h5, k5s, hlen, hts⟩
      have w5 : Wls H5 ar xs := ⟨b5 _ _ (wls_tp w4.1 t4) nsar w4.1, w4.2⟩
      have hvl := k5s.len
      have put : ∀ (a : Addr) (t : Tm) (H6 : Hp), But1 tp H5 H6 → Tp H6 tp → At H6 t a → SmT hF xs t →
          ∃ l zs y, V.ref sl = .ref l ∧ [V.ref a] = [y] ∧ H6 l = some (.lst zs) ∧ zs.length < sizeLine ∧ ∃ o7 vs ts, ([some (.ref tp), some (.ref kd), some (.ref ar), some (.ref hl), some (.str fn), some (.str j), some (.ref sl), some (.int (0 + (i : Nat)))] : St) = [some (.ref tp), some (.ref kd), some (.ref ar), some (.ref hl), some (.str fn), some (.str j), some (.ref sl), o7] ∧
            (∀ b o, b ≠ tp → b ≠ sl → H4 b = some o → upd H6 l (.lst (zs ++ [y])) b = some o) ∧ Tp (upd H6 l (.lst (zs ++ [y]))) tp ∧ upd H6 l (.lst (zs ++ [y])) sl = some (.lst vs) ∧ All2 (RefV (upd H6 l (.lst (zs ++ [y])))) ts vs ∧ ts.length = i + 1 ∧ ∀ t ∈ ts, SmT hF xs t := by
        intro a t H6 b6 t6 at6 sm
        have h6 := b6 _ _ nst h5
        have tk6 := b6.tk t5
        have tkp : TK H6 (upd H6 sl (.lst (vs ++ [V.ref a]))) := tk_put h6
        refine ⟨sl, vs, .ref a, rfl, rfl, h6, Nat.lt_of_le_of_lt (m := 1000) (by omega) (by decide), _, vs ++ [.ref a], ts ++ [t], rfl, fun b o n1 n2 hb => ?_, ?_, upd_same, ?_, ?_, fun u hu => ?_⟩
        · rw [upd_ne n2]
          exact b6 _ _ n1 (b5 _ _ n1 n2 hb)
        · obtain ⟨z, hz⟩ := t6
          exact ⟨z, by rw [upd_ne nst.symm]; exact hz⟩
        · exact All2.app (k5s.imp fun _ _ z => (z.tk tk6).tk tkp) ⟨⟨a, rfl, at6.tk tkp⟩, trivial⟩
        · rw [List.length_append, hlen]
          rfl
        · rcases List.mem_append.mp hu with z | z
          · exact hts u z
          · rw [List.mem_singleton.mp z]
            exact sm
      refine ⟨_, rfl, rfl, _, rfl, ?_⟩
      by_cases c0 : V.int (0 + (i : Nat)) = V.int 0
      · refine itT (decide_eq_true c0) ⟨_, rfl, tp, 4, rfl, t5, by decide, by decide, fun r6 H6 r60 r61 b6 t6 => ?_⟩
        have h6 := b6 _ _ nst h5
        have w6 := w5.but b6 t5
        refine ⟨_, _, rfl, rfl, _, rfl, ?_⟩
        refine ite2 (fun c2 => ?_) (fun c2 => ?_)
        · refine ⟨_, rfl, .inl ⟨rfl, _, SqL.of h6⟩, _, rfl, ar, xs, rfl, w6, fun a t H7 s7 gd smp => ?_⟩
          exact put a t H7 (b6.trans (but_same s7)) (t6.same s7) (gd hF).at_ ⟨(gd hF).ok, smp, (gd hF).sc, (gd hF).cn, (gd hF).dp⟩
        · exact ⟨_, rfl, .inl ⟨rfl, _, SqL.of h6⟩, _, rfl, _, rfl, tp, ar, xs, rfl, t6, w6, hx, Nat.le_refl _, fun a t H7 b7 t7 gs => put a t H7 (b6.trans b7) t7 (gs hF).g.at_ (gs hF).sm⟩
      · refine itF (decide_eq_false c0) (iteF ?_)
        exact ⟨_, rfl, .inl ⟨rfl, _, SqL.of h5⟩, _, rfl, _, rfl, tp, ar, xs, rfl, t5, w5, hx, Nat.le_refl _, fun a t H7 b7 t7 gs => put a t H7 b7 t7 (gs hF).g.at_ (gs hF).sm⟩
    · rintro σ H5 ⟨o7, vs, ts, rfl, b5, t5, h5, k5s, hlen, hts⟩
      refine ⟨_, rfl, _, rfl, sl, _, rfl, .inl ⟨SqL.of h5, fun p6 hp6 => ⟨_, rfl, sz (by show 4 ≤ 100000; decide), fun p7 hp7 => ?_⟩⟩⟩
      have s6 := same_new hp6 (.tup vs)
      have s7 := same_new hp7 (.tup [V.str "ask", .str fn, .ref p6, .str j])
      have bE : But1 tp H (upd (upd H5 p6 (.tup vs)) p7 (.tup [V.str "ask", .str fn, .ref p6, .str j])) := fun b o nb hb => by
        have h3 := b13 b o nb hb
        exact s7 _ _ (s6 _ _ (b5 b o nb (ne_of_none h3 frS) (sH4 _ _ h3)))
      have hF4 : hF fn = some ts.length := by rw [mF, hlen]
      refine q p7 (.ask fn ts j) _ bE ((t5.same s6).same s7) ⟨p6, vs, upd_same, s7 _ _ upd_same, k5s.imp fun _ _ z => z.tk (tk_same (s6.trans s7))⟩ ⟨hj, hwfn, hF4, by omega, hts⟩ rfl rfl rfl
end
end KB

namespace KB
open PySem L2

theorem lastV {xs : List V} {y : V} : (xs ++ [y])[(xs ++ [y]).length - 1]? = some y := by
  rw [List.length_append, List.length_singleton, Nat.add_sub_cancel, List.getElem?_append_right (Nat.le_refl _), Nat.sub_self]
  rfl
theorem dropV {xs : List V} {y : V} : (xs ++ [y]).dropLast = xs := List.dropLast_concat
theorem GT.popW {H : Hp} {tp kd wl pl : Addr} {hF : Str → Option Nat} {ws js : List Str} {x : Str} (g : GT H tp kd wl pl hF (ws ++ [x]) js) : GT (upd H wl (.lst (ws.map V.str))) tp kd wl pl hF ws js ∧ But3 tp wl pl H (upd H wl (.lst (ws.map V.str))) := by
  have b : But3 tp wl pl H (upd H wl (.lst (ws.map V.str))) := fun b o _ n _ h => by rw [upd_ne n]; exact h
  have hn := wls_tp g.w.1 g.t
  obtain ⟨z, hz⟩ := g.t
  have wn := g.wn
  rw [List.length_append] at wn
  exact ⟨g.step b ⟨z, by rw [upd_ne hn.symm]; exact hz⟩ ⟨upd_same, fun y hy => g.w.2 y (List.mem_append_left _ hy)⟩ ⟨by rw [upd_ne g.wp.symm]; exact g.p.1, g.p.2⟩ (by omega) g.pn, b⟩
theorem GT.popP {H : Hp} {tp kd wl pl : Addr} {hF : Str → Option Nat} {ws js : List Str} {x : Str} (g : GT H tp kd wl pl hF ws (js ++ [x])) : GT (upd H pl (.lst (js.map V.str))) tp kd wl pl hF ws js ∧ But3 tp wl pl H (upd H pl (.lst (js.map V.str))) := by
  have b : But3 tp wl pl H (upd H pl (.lst (js.map V.str))) := fun b o _ _ n h => by rw [upd_ne n]; exact h
  have hn := wls_tp g.p.1 g.t
  obtain ⟨z, hz⟩ := g.t
  have pn := g.pn
  rw [List.length_append] at pn
  exact ⟨g.step b ⟨z, by rw [upd_ne hn.symm]; exact hz⟩ ⟨by rw [upd_ne g.wp]; exact g.w.1, g.w.2⟩ ⟨upd_same, fun y hy => g.p.2 y (List.mem_append_left _ hy)⟩ g.wn (by omega), b⟩
theorem snoc_of {ws : List Str} (h : ws ≠ []) : ∃ r x, ws = r ++ [x] := ⟨ws.dropLast, ws.getLast h, (List.dropLast_concat_getLast h).symm⟩
theorem mapS {ws : List Str} {x : Str} : (ws ++ [x]).map V.str = ws.map V.str ++ [V.str x] := by
  rw [List.map_append]
  rfl
section
variable {P : Program} {w : World} {K : PySem.W.Frag} {mg : Str → Option Value} {base : Heap}
/-! ### _law_part -/
/-- what stands around a part that is to be drawn -/
structure PtIn (H : Hp) (tp kd wl pl ar hl : Addr) (hF : Str → Option Nat) (ws js xs hs : List Str) : Prop where
  g : GT H tp kd wl pl hF ws js
  w : Wls H ar xs
  a1 : ar ≠ wl
  a2 : ar ≠ pl
  h : Hls H hl hs
  h0 : hl ≠ tp
  h1 : hl ≠ wl
  h2 : hl ≠ pl
  ne : hs ≠ []
  wj : ws.length ≤ js.length
  l1 : xs.length + ws.length ≤ 200
  l2 : hs.length + js.length ≤ 200
/-- what is told of a part that was drawn -/
structure PtOut (H H' : Hp) (tp kd wl pl : Addr) (hF : Str → Option Nat) (ws js xs hs : List Str) (n : Nat) (a : Addr) (p : Pt) (ws' js' ls ms : List Str) : Prop where
  b : But3 tp wl pl H H'
  g : GT H' tp kd wl pl hF ws' js'
  wj : ws'.length ≤ js'.length
  e1 : ws = ws' ++ ls.reverse
  e2 : js = js' ++ ms.reverse
  at_ : PAt H' p a
  ok : okP hF p xs hs
  cn : pcnt p ≤ n
  s1 : (wP p).Sublist ls
  s2 : (jP p).Sublist ms
def spPart (n : Nat) : Sp := fun vs H Q _ => ∃ (tp kd wl pl ar hl : Addr) (hF : Str → Option Nat) (ws js xs hs : List Str) (room deep : Int), vs = [.ref tp, .ref kd, .ref ar, .ref hl, .int room, .int deep] ∧ PtIn H tp kd wl pl ar hl hF ws js xs hs ∧ 1 ≤ room ∧ room ≤ 1000 ∧ 0 ≤ deep ∧ deep ≤ n ∧
  ∀ a p H' ws' js' ls ms, PtOut H H' tp kd wl pl hF ws js xs hs room.toNat a p ws' js' ls ms → Q (.ref a) H'
def spPtPrev : Nat → Sp
  | 0 => fun _ _ _ _ => False
  | n + 1 => spPart n
theorem PtIn.step {H H' : Hp} {tp kd wl pl ar hl : Addr} {hF : Str → Option Nat} {ws js ws' js' xs hs : List Str} (I : PtIn H tp kd wl pl ar hl hF ws js xs hs) (b : But3 tp wl pl H H') (g : GT H' tp kd wl pl hF ws' js') (wj : ws'.length ≤ js'.length) (l1 : ws'.length ≤ ws.length) (l2 : js'.length ≤ js.length) : PtIn H' tp kd wl pl ar hl hF ws' js' xs hs := by
  have h1 := I.l1
  have h2 := I.l2
  exact ⟨g, I.w.three b I.g I.a1 I.a2, I.a1, I.a2, b _ _ I.h0 I.h1 I.h2 I.h, I.h0, I.h1, I.h2, I.ne, wj, by omega, by omega⟩
theorem PtIn.one {H H' : Hp} {tp kd wl pl ar hl : Addr} {hF : Str → Option Nat} {ws js xs hs : List Str} (I : PtIn H tp kd wl pl ar hl hF ws js xs hs) (b : But1 tp H H') (t : Tp H' tp) : PtIn H' tp kd wl pl ar hl hF ws js xs hs := I.step b.three (I.g.one b t) I.wj (Nat.le_refl _) (Nat.le_refl _)
theorem PtIn.same {H H' : Hp} {tp kd wl pl ar hl : Addr} {hF : Str → Option Nat} {ws js xs hs : List Str} (I : PtIn H tp kd wl pl ar hl hF ws js xs hs) (s : Same H H') : PtIn H' tp kd wl pl ar hl hF ws js xs hs := I.one (but_same s) (I.g.t.same s)
abbrev s_law_part : Stmt := top 19
theorem scLpart : FnScope ["tape", "known", "around", "hands", "room", "deep", "word", "choice", "shares", "one", "x", "j", "term"] ["tape", "known", "around", "hands", "room", "deep"] (defScope s_law_part) := ⟨rfl, rfl, rfl, by decide +kernel, rfl, by decide +kernel, by decide +kernel⟩
theorem ok_part (T : Txt K mg) (n : Nat) {f fg fh fe fs fq : Addr} {fd gd hd ed sd qd : FuncData} (F : Fun K "_law_part" "_law_part" s_law_part f fd) (G_law_digit : FnOk P w K mg base CX0 1 fg gd ["tape", "many"] spDig) (R_law_digit : Ref K mg "_law_digit" fg gd ["tape", "many"])
    (G_law_some_hand : FnOk P w K mg base CX0 2 fh hd ["tape", "known", "hands"] spHand) (R_law_some_hand : Ref K mg "_law_some_hand" fh hd ["tape", "known", "hands"]) (G_law_end : FnOk P w K mg base CX0 6 fe ed ["tape", "known", "around", "hands"] spEnd) (R_law_end : Ref K mg "_law_end" fe ed ["tape", "known", "around", "hands"])
    (G_law_simple : FnOk P w K mg base CX0 5 fs sd ["tape", "around", "deep"] (spSimple 1)) (R_law_simple : Ref K mg "_law_simple" fs sd ["tape", "around", "deep"]) (G_law_shares : FnOk P w K mg base CX0 2 fq qd ["tape", "room", "many"] spShr) (R_law_shares : Ref K mg "_law_shares" fq qd ["tape", "room", "many"])
    (G_law_part : FnOk P w K mg base CX0 (n + 6) f fd ["tape", "known", "around", "hands", "room", "deep"] (spPtPrev n)) (R_law_part : Ref K mg "_law_part" f fd ["tape", "known", "around", "hands", "room", "deep"]) : FnOk P w K mg base CX0 (n + 7) f fd ["tape", "known", "around", "hands", "room", "deep"] (spPart n) := by
  refine F.ok scLpart (fun vs H Q E h => ?_) (fun cdv A outer s H vs Q E hr h => ?_)
  · obtain ⟨tp, kd, wl, pl, ar, hl, hF, ws, js, xs, hs, room, deep, rfl, _⟩ := h
    rfl
  obtain ⟨tp, kd, wl, pl, ar, hl, hF, ws, js, xs, hs, room, deep, rfl, I, hr1, hr2, hd1, hd2, q⟩ := h
  refine ⟨_, (pss_cons (ps_if (PW.pt (pw_or (pt_cmpR op_lt (pv 4) pe_int (nomark _)) (pw_or1 (pt_cmpR op_eq (pv 5) pe_int (nomark _))))) (pss_one (ps_ret (pe_call G_law_end (hr.mono (by omega)) rfl R_law_end.m R_law_end.k R_law_end.b .nil pass0 (pa_cons (pv 0) (pa_cons (pv 1) (pa_cons (pv 2) (pa_cons (pv 3) pa_nil))))))) pss_nil)
    (pss_cons (ps_set (i := 6) scLpart.nd rfl (Or.inl rfl) (pe_ix ix_list (pe_lst (pa_cons pe_str (pa_cons pe_str (pa_cons pe_str (pa_cons pe_str (pa_cons pe_str (pa_cons pe_str (pa_cons pe_str (pa_cons pe_str pa_nil))))))))) (pe_call G_law_digit (hr.mono (by omega)) rfl R_law_digit.m R_law_digit.k R_law_digit.b .nil pass0 (pa_cons (pv 0) (pa_cons pe_int pa_nil))) (fun _ _ => rfl)))
    (pss_cons (ps_if (pt_cmpR op_eq (pv 6) pe_str (nomark _)) (pss_cons (ps_set (i := 7) scLpart.nd rfl (Or.inl rfl) (pe_call G_law_simple (hr.mono (by omega)) rfl R_law_simple.m R_law_simple.k R_law_simple.b .nil pass0 (pa_cons (pv 0) (pa_cons (pv 2) (pa_cons pe_int pa_nil)))))
    (pss_cons (ps_set (i := 8) scLpart.nd rfl (Or.inl rfl) (pe_call G_law_shares (hr.mono (by omega)) rfl R_law_shares.m R_law_shares.k R_law_shares.b .nil pass0 (pa_cons (pv 0) (pa_cons (pe_op op_sub (pv 4) pe_int) (pa_cons pe_int pa_nil)))))
    (pss_cons (ps_set (i := 9) scLpart.nd rfl (Or.inl rfl) (pe_call G_law_part (hr.mono (by omega)) rfl R_law_part.m R_law_part.k R_law_part.b .nil pass0 (pa_cons (pv 0) (pa_cons (pv 1) (pa_cons (pv 2) (pa_cons (pv 3) (pa_cons (pe_ix ix_list (pv 8) pe_int (fun _ _ => rfl)) (pa_cons (pe_op op_sub (pv 5) pe_int) pa_nil))))))))
    (pss_one (ps_ret (pe_tup (pa_cons pe_str (pa_cons (pv 7) (pa_cons (pv 9) (pa_cons (pe_call G_law_part (hr.mono (by omega)) rfl R_law_part.m R_law_part.k R_law_part.b .nil pass0 (pa_cons (pv 0) (pa_cons (pv 1) (pa_cons (pv 2) (pa_cons (pv 3) (pa_cons (pe_ix ix_list (pv 8) pe_int (fun _ _ => rfl)) (pa_cons (pe_op op_sub (pv 5) pe_int) pa_nil))))))) pa_nil)))))))))) pss_nil)
    (pss_cons (ps_if (pt_cmpR (op_eqD hr.units) (pe_dget (hu_of hr) (pv 1) pe_str (fun _ _ => rfl)) (pe_lst pa_nil) (nomark _)) (pss_one (ps_ret (pe_call G_law_end (hr.mono (by omega)) rfl R_law_end.m R_law_end.k R_law_end.b .nil pass0 (pa_cons (pv 0) (pa_cons (pv 1) (pa_cons (pv 2) (pa_cons (pv 3) pa_nil))))))) pss_nil)
    (pss_cons (ps_set (i := 10) scLpart.nd rfl (Or.inl rfl) (pe_bm0 PySem.F.plainAttrs_list PySem.F.slot_list_pop PySem.F.type_list_pop mt_pop (pe_dget (hu_of hr) (pv 1) pe_str (fun _ _ => rfl))))
    (pss_cons (ps_if (pt_cmpR op_eq (pv 6) pe_str (nomark _)) (pss_cons (ps_set (i := 11) scLpart.nd rfl (Or.inl rfl) (pe_bm0 PySem.F.plainAttrs_list PySem.F.slot_list_pop PySem.F.type_list_pop mt_pop (pe_dget (hu_of hr) (pv 1) pe_str (fun _ _ => rfl))))
    (pss_cons (ps_set (i := 8) scLpart.nd rfl (Or.inl rfl) (pe_call G_law_shares (hr.mono (by omega)) rfl R_law_shares.m R_law_shares.k R_law_shares.b .nil pass0 (pa_cons (pv 0) (pa_cons (pe_op op_sub (pv 4) pe_int) (pa_cons pe_int pa_nil)))))
    (pss_cons (ps_set (i := 9) scLpart.nd rfl (Or.inl rfl) (pe_call G_law_part (hr.mono (by omega)) rfl R_law_part.m R_law_part.k R_law_part.b .nil pass0 (pa_cons (pv 0) (pa_cons (pv 1) (pa_cons (pe_op op_cat (pv 2) (pe_lst (pa_cons (pv 10) pa_nil))) (pa_cons (pv 3) (pa_cons (pe_ix ix_list (pv 8) pe_int (fun _ _ => rfl)) (pa_cons (pe_op op_sub (pv 5) pe_int) pa_nil))))))))
    (Evl.pss_cut (ps_if (pt_cmpR op_eq (pe_call G_law_digit (hr.mono (by omega)) rfl R_law_digit.m R_law_digit.k R_law_digit.b .nil pass0 (pa_cons (pv 0) (pa_cons pe_int pa_nil))) pe_int (nomark _)) (pss_one (ps_set (i := 9) scLpart.nd rfl (Or.inl rfl) (pe_tup (pa_cons pe_str (pa_cons (pe_call G_law_some_hand (hr.mono (by omega)) rfl R_law_some_hand.m R_law_some_hand.k R_law_some_hand.b .nil pass0 (pa_cons (pv 0) (pa_cons (pv 1) (pa_cons (pv 3) pa_nil)))) (pa_cons (pe_tup (pa_cons pe_str (pa_cons (pv 10) pa_nil))) pa_nil)))))) pss_nil)
    (pss_one (ps_ret (pe_tup (pa_cons pe_str (pa_cons (pv 11) (pa_cons (pv 10) (pa_cons (pv 9) (pa_cons (pe_call G_law_part (hr.mono (by omega)) rfl R_law_part.m R_law_part.k R_law_part.b .nil pass0 (pa_cons (pv 0) (pa_cons (pv 1) (pa_cons (pv 2) (pa_cons (pe_op op_cat (pv 3) (pe_lst (pa_cons (pv 11) pa_nil))) (pa_cons (pe_ix ix_list (pv 8) pe_int (fun _ _ => rfl)) (pa_cons (pe_op op_sub (pv 5) pe_int) pa_nil))))))) pa_nil)))))))))))) pss_nil)
    (pss_cons (ps_set (i := 12) scLpart.nd rfl (Or.inl rfl) (pe_call G_law_simple (hr.mono (by omega)) rfl R_law_simple.m R_law_simple.k R_law_simple.b .nil pass0 (pa_cons (pv 0) (pa_cons (pv 2) (pa_cons pe_int pa_nil)))))
    (pss_one (ps_ret (pe_tup (pa_cons (pv 6) (pa_cons (pv 10) (pa_cons (pv 12) (pa_cons (pe_call G_law_part (hr.mono (by omega)) rfl R_law_part.m R_law_part.k R_law_part.b .nil pass0 (pa_cons (pv 0) (pa_cons (pv 1) (pa_cons (pe_op op_cat (pv 2) (pe_lst (pa_cons (pv 10) pa_nil))) (pa_cons (pv 3) (pa_cons (pe_op op_sub (pv 4) pe_int) (pa_cons (pe_op op_sub (pv 5) pe_int) pa_nil))))))) pa_nil)))))))))))))), ?_⟩
  have l1 := I.l1
  have l2 := I.l2
  have endW : ∀ (H1 : Hp) (s6 : Option V), But3 tp wl pl H H1 → PtIn H1 tp kd wl pl ar hl hF ws js xs hs → (tRet (tCall spEnd [] E0 (tCons (tVar 0) (tCons (tVar 1) (tCons (tVar 2) (tCons (tVar 3) tNil)))))) { nx := fun x H' => Q V.non H', rt := Q }
      [some (.ref tp), some (.ref kd), some (.ref ar), some (.ref hl), some (.int room), some (.int deep), s6, none, none, none, none, none, none] H1 := by
    intro H1 s6 b1 I1
    refine ⟨_, rfl, _, rfl, _, rfl, _, rfl, tp, kd, wl, pl, ar, hl, hF, ws, js, xs, hs, rfl, I1.g, I1.w, by omega, I1.h, I1.ne, by omega, I1.h0, fun a p H2 b2 t2 pa ok c1 c2 c3 => ?_⟩
    exact q a p H2 ws js [] [] ⟨b1.trans b2.three, I1.g.one b2 t2, I1.wj, (List.append_nil ws).symm, (List.append_nil js).symm, pa, ok, by omega, by rw [c2]; exact .slnil, by rw [c3]; exact .slnil⟩
  refine ⟨_, rfl, _, _, rfl, rfl, _, rfl, ?_⟩
  refine ite2 (fun c => iteT (endW H none (But3.refl _ _ _ _) I)) (fun c => ?_)
  have hroom : 3 ≤ room := by
    have : ¬ room < 3 := fun z => c (decide_eq_true z)
    omega
  refine ⟨_, rfl, rfl, _, rfl, ?_⟩
  refine ite2 (fun c2 => endW H none (But3.refl _ _ _ _) I) (fun c2 => ?_)
  have hdeep : deep ≠ 0 := fun z => c2 (decide_eq_true (by rw [z]))
  cases n with
  | zero => exact absurd (by omega : deep = 0) hdeep
  | succ n =>
  refine ⟨sz (by show 8 ≤ 100000; decide), fun p1 hp1 => ?_⟩
  have s1 := same_new hp1 (.lst [V.str "tell", .str "let", .str "if", .str "if", .str "post", .str "post", .str "post", .str "post"])
  have I1 := I.same s1
  have n1 := (I.g.new hp1).1
  refine ⟨_, rfl, tp, 8, rfl, I1.g.t, by decide, by decide, fun r H2 r0 r1 b2 t2 => ?_⟩
  obtain ⟨v, hv, hm⟩ := at_some (xs := [V.str "tell", .str "let", .str "if", .str "if", .str "post", .str "post", .str "post", .str "post"]) r0 r1
  have I2 := I1.one b2 t2
  have B2 : But3 tp wl pl H H2 := (but3_same s1).trans b2.three
  refine ⟨p1, _, _, _, rfl, rfl, SqL.of (b2 _ _ n1 upd_same), hv, ?_⟩
  have hcase : v = .str "if" ∨ v = .str "post" ∨ v = .str "tell" ∨ v = .str "let" := by
    simp only [List.mem_cons, List.not_mem_nil, or_false] at hm
    rcases hm with z | z | z | z | z | z | z | z
    · exact .inr (.inr (.inl z))
    · exact .inr (.inr (.inr z))
    · exact .inl z
    · exact .inl z
    · exact .inr (.inl z)
    · exact .inr (.inl z)
    · exact .inr (.inl z)
    · exact .inr (.inl z)
  rcases hcase with rfl | rest
  · -- if
    refine ⟨_, rfl, rfl, _, rfl, itT rfl ?_⟩
    refine ⟨_, rfl, _, rfl, tp, ar, xs, rfl, I2.g.t, I2.w, by omega, Nat.le_refl _, fun a3 u3 H3 b3 t3 gs => ?_⟩
    have I3 := I2.one b3 t3
    refine ⟨_, rfl, _, rfl, _, _, rfl, rfl, tp, room - 1, 2, rfl, t3, by decide, by omega, by omega, fun sp ss H4 b4 t4 fr4 h4 hl4 pos4 sum4 => ?_⟩
    have I4 := I3.one b4 t4
    obtain ⟨y0, y1, rfl⟩ : ∃ y0 y1, ss = [y0, y1] := by
      match ss, hl4 with
      | [y0, y1], _ => exact ⟨y0, y1, rfl⟩
      | [], z => cases z
      | [_], z => cases z
      | _ :: _ :: _ :: _, z => simp at z; omega
    have py0 := pos4 y0 List.mem_cons_self
    have py1 := pos4 y1 (List.mem_cons_of_mem _ List.mem_cons_self)
    have sy : y0 + y1 ≤ room - 1 := by
      have : y0 + (y1 + 0) ≤ room - 1 := sum4
      omega
    have ns := I3.g.new fr4
    refine ⟨_, rfl, _, rfl, _, rfl, _, rfl, _, rfl, sp, _, _, _, rfl, rfl, SqL.of h4, at0, _, rfl, _, _, rfl, rfl, tp, kd, wl, pl, ar, hl, hF, ws, js, xs, hs, y0, deep - 1, rfl, I4, py0, by omega, by omega, by omega, fun a5 q5 H5 ws5 js5 ls5 ms5 O5 => ?_⟩
    have le1 : ws5.length ≤ ws.length := by
      rw [O5.e1, List.length_append]
      omega
    have le2 : js5.length ≤ js.length := by
      rw [O5.e2, List.length_append]
      omega
    have I5 := I4.step O5.b O5.g O5.wj le1 le2
    have h5 := O5.b _ _ ns.1 ns.2.1 ns.2.2 h4
    refine ⟨_, rfl, _, rfl, _, rfl, _, rfl, _, rfl, _, rfl, _, rfl, sp, _, _, _, rfl, rfl, SqL.of h5, at1, _, rfl, _, _, rfl, rfl, tp, kd, wl, pl, ar, hl, hF, ws5, js5, xs, hs, y1, deep - 1, rfl, I5, py1, by omega, by omega, by omega, fun a6 q6 H6 ws6 js6 ls6 ms6 O6 => ?_⟩
    refine ⟨sz (by show 4 ≤ 100000; decide), fun p7 hp7 => ?_⟩
    have s7 := same_new hp7 (.tup [V.str "if", .ref a3, .ref a5, .ref a6])
    have b34 : But3 tp wl pl H3 H6 := (b4.three.trans O5.b).trans O6.b
    have k36 : TK H3 H6 := I3.g.tk b34
    have k56 : TK H5 H6 := I5.g.tk O6.b
    have B6 : But3 tp wl pl H H6 := (B2.trans b3.three).trans b34
    refine q p7 (.iff u3 q5 q6) _ ws6 js6 (ls5 ++ ls6) (ms5 ++ ms6) ⟨B6.trans (but3_same s7), O6.g.same s7, O6.wj, ?_, ?_, ⟨a3, a5, a6, upd_same, ((gs hF).g.at_.tk k36).mono s7, (O5.at_.tk k56).tk (tk_same s7), O6.at_.tk (tk_same s7)⟩, ⟨(gs hF).sm, O5.ok, O6.ok⟩, ?_, O5.s1.append O6.s1, O5.s2.append O6.s2⟩
    · rw [List.reverse_append, ← List.append_assoc, ← O6.e1]
      exact O5.e1
    · rw [List.reverse_append, ← List.append_assoc, ← O6.e2]
      exact O5.e2
    · have c5 := O5.cn
      have c6 := O6.cn
      show 1 + pcnt q5 + pcnt q6 ≤ room.toNat
      omega
  obtain ⟨wd, rfl, hwd⟩ : ∃ wd : Str, v = .str wd ∧ (wd = "post" ∨ wd = "tell" ∨ wd = "let") := by
    rcases rest with z | z | z
    · exact ⟨_, z, .inl rfl⟩
    · exact ⟨_, z, .inr (.inl rfl)⟩
    · exact ⟨_, z, .inr (.inr rfl)⟩
  have hnif : decide (V.str wd = V.str (Str.ofString "if")) = false := by
    rcases hwd with rfl | rfl | rfl <;> rfl
  refine ⟨_, rfl, rfl, _, rfl, itF hnif ?_⟩
  clear rest hv hm
  obtain ⟨el, hd', fs', kvs, rm, st, k2, _⟩ := I2.g.k
  refine ⟨_, rfl, kd, _, rfl, gt_words k2, sz (by show 0 ≤ 100000; decide), fun p0 hp0 => ?_⟩
  have s3 := same_new hp0 (.lst [])
  refine ⟨.list (ws.map PyData.str), .list [], .lst (SqL.of (s3 _ _ I2.g.w.1)) (dp_strs ws), .lst (SqL.of upd_same) .nil, shaped_strs I2.g.w.2, rfl, _, rfl, ?_⟩
  rw [eqv_nil]
  have I3 := I2.same s3
  have B3 := B2.trans (but3_same (tp := tp) (wl := wl) (pl := pl) s3)
  have k3 := s3 _ _ k2
  generalize upd H2 p0 (.lst []) = H3 at I3 B3 k3 ⊢
  by_cases hws : ws = []
  · exact itT (by rw [hws]; rfl) (endW H3 _ B3 I3)
  refine itF (by cases ws with | nil => exact absurd rfl hws | cons _ _ => rfl) ?_
  obtain ⟨wsx, x, rfl⟩ := snoc_of hws
  have hxW : isW x = true := I.g.w.2 x (List.mem_append_right _ List.mem_cons_self)
  have gw := I3.g.w.1
  rw [mapS] at gw
  refine ⟨_, rfl, kd, _, rfl, gt_words k3, .inl ⟨rfl, _, SqL.of gw⟩, wl, _, _, rfl, rfl, gw, lastV, ?_⟩
  rw [dropV]
  obtain ⟨g4, b4⟩ := I3.g.popW
  have wj := I.wj
  rw [List.length_append] at wj
  have wj : wsx.length + 1 ≤ js.length := wj
  have lx : (wsx ++ [x]).length = wsx.length + 1 := by rw [List.length_append]; rfl
  have I4 := I3.step b4 g4 (by omega) (by omega) (Nat.le_refl _)
  have B4 := B3.trans b4
  have k4 : (upd H3 wl (.lst (wsx.map V.str))) kd = some (.dK (knT el hd' wl pl rm st)) := by
    obtain ⟨n1, n2, n3⟩ := I3.g.ntk k3 (fun _ z => nomatch z)
    exact b4 _ _ n1 n2 n3 k3
  generalize upd H3 wl (.lst (wsx.map V.str)) = H4 at g4 b4 I4 B4 k4 ⊢
  -- what is around with one word more
  have moreW : ∀ {H5 : Hp} {ws5 js5 : List Str} (I5 : PtIn H5 tp kd wl pl ar hl hF ws5 js5 xs hs) (hw5 : ws5.length ≤ wsx.length) {p6 p7 : Addr} (hp6 : H5 p6 = none) (hp7 : upd H5 p6 (.lst [V.str x]) p7 = none),
      PtIn (upd (upd H5 p6 (.lst [V.str x])) p7 (.lst (xs.map V.str ++ [V.str x]))) tp kd wl pl p7 hl hF ws5 js5 (xs ++ [x]) hs := by
    intro H5 ws5 js5 I5 hw5 p6 p7 hp6 hp7
    have s6 := same_new hp6 (.lst [V.str x])
    have s7 := same_new hp7 (.lst (xs.map V.str ++ [V.str x]))
    have I7 := I5.same (s6.trans s7)
    have nn := (I5.same s6).g.new hp7
    have e7 := I7.l2
    refine ⟨I7.g, ⟨by rw [upd_same, mapS], fun y hy => ?_⟩, nn.2.1, nn.2.2, I7.h, I7.h0, I7.h1, I7.h2, I7.ne, I7.wj, ?_, e7⟩
    · rcases List.mem_append.mp hy with z | z
      · exact I.w.2 y z
      · rw [List.mem_singleton.mp z]
        exact hxW
    · rw [List.length_append, List.length_singleton]
      omega
  by_cases hpost : wd = "post"
  · subst hpost
    refine ⟨_, rfl, rfl, _, rfl, itT rfl ?_⟩
    obtain ⟨jsx, j, rfl⟩ := snoc_of (ws := js) (fun z => by rw [z] at wj; cases wj)
    have hjW : isW j = true := I.g.p.2 j (List.mem_append_right _ List.mem_cons_self)
    have lj : (jsx ++ [j]).length = jsx.length + 1 := by rw [List.length_append]; rfl
    have gp := I4.g.p.1
    rw [mapS] at gp
    refine ⟨_, rfl, kd, _, rfl, gt_posts k4, .inl ⟨rfl, _, SqL.of gp⟩, pl, _, _, rfl, rfl, gp, lastV, ?_⟩
    rw [dropV]
    obtain ⟨g5, b5⟩ := I4.g.popP
    have I5 := I4.step b5 g5 (by omega) (Nat.le_refl _) (by omega)
    have B5 := B4.trans b5
    generalize upd H4 pl (.lst (jsx.map V.str)) = H5 at g5 b5 I5 B5 ⊢
    refine ⟨_, rfl, _, rfl, _, _, rfl, rfl, tp, room - 1, 2, rfl, I5.g.t, by decide, by omega, by omega, fun sp ss H6 b6 t6 fr6 h6 hl6 pos6 sum6 => ?_⟩
    have I6 := I5.one b6 t6
    obtain ⟨y0, y1, rfl⟩ : ∃ y0 y1, ss = [y0, y1] := by
      match ss, hl6 with
      | [y0, y1], _ => exact ⟨y0, y1, rfl⟩
      | [], z => cases z
      | [_], z => cases z
      | _ :: _ :: _ :: _, z => simp at z; omega
    have py0 := pos6 y0 List.mem_cons_self
    have py1 := pos6 y1 (List.mem_cons_of_mem _ List.mem_cons_self)
    have sy : y0 + y1 ≤ room - 1 := by
      have : y0 + (y1 + 0) ≤ room - 1 := sum6
      omega
    have ns := I5.g.new fr6
    -- T
    refine ⟨_, rfl, _, rfl, _, rfl, _, rfl, sz (by show 1 ≤ 100000; decide), fun p7 hp7 => ?_⟩
    have s7 := same_new hp7 (.lst [V.str x])
    refine ⟨ar, p7, _, _, rfl, rfl, s7 _ _ I6.w.1, upd_same, sz (by rw [List.length_map]; show xs.length + 1 ≤ 100000; omega), fun p8 hp8 => ?_⟩
    have s8 := same_new hp8 (.lst (xs.map V.str ++ [V.str x]))
    have I8 := moreW I6 (Nat.le_refl _) hp7 hp8
    have h8 := s8 _ _ (s7 _ _ h6)
    have s68 := s7.trans s8
    generalize upd (upd H6 p7 (.lst [V.str x])) p8 (.lst (xs.map V.str ++ [V.str x])) = H8 at I8 h8 s68 ⊢
    refine ⟨_, rfl, _, rfl, sp, _, _, _, rfl, rfl, SqL.of h8, at0, _, rfl, _, _, rfl, rfl, tp, kd, wl, pl, p8, hl, hF, wsx, jsx, xs ++ [x], hs, y0, deep - 1, rfl, I8, py0, by omega, by omega, by omega, fun a9 q9 H9 ws9 js9 ls9 ms9 O9 => ?_⟩
    have le1 : ws9.length ≤ wsx.length := by
      rw [O9.e1, List.length_append]
      omega
    have le2 : js9.length ≤ jsx.length := by
      rw [O9.e2, List.length_append]
      omega
    have b69 : But3 tp wl pl H6 H9 := (but3_same s68).trans O9.b
    have I9 := I6.step b69 O9.g O9.wj le1 le2
    have h9 := O9.b _ _ ns.1 ns.2.1 ns.2.2 h8
    refine ⟨fun σ' H' => ∃ a q, σ' = [some (.ref tp), some (.ref kd), some (.ref ar), some (.ref hl), some (.int room), some (.int deep), some (.str "post"), none, some (.ref sp), some (.ref a), some (.str x), some (.str j), none] ∧ But3 tp wl pl H9 H' ∧ PtIn H' tp kd wl pl ar hl hF ws9 js9 xs hs ∧
      H' sp = some (.lst ([y0, y1].map V.int)) ∧ PAt H' q a ∧ okP hF q (xs ++ [x]) hs ∧ pcnt q ≤ y0.toNat ∧ (wP q).Sublist ls9 ∧ (jP q).Sublist ms9, ?_, ?_⟩
    · refine ⟨_, rfl, tp, 8, rfl, I9.g.t, by decide, by decide, fun r10 H10 r100 r101 b10 t10 => ⟨rfl, _, rfl, ?_⟩⟩
      have I10 := I9.one b10 t10
      have h10 := b10 _ _ ns.1 h9
      refine ite2 (fun c => ?_) (fun c => ?_)
      · refine ⟨_, rfl, _, rfl, _, rfl, tp, kd, wl, pl, hl, hF, ws9, js9, hs, rfl, I10.g, I10.h, I10.ne, by have := I10.l2; omega, I10.h0, fun jj H11 b11 t11 hjj => ?_⟩
        have I11 := I10.one b11 t11
        refine ⟨_, rfl, sz (by show 2 ≤ 100000; decide), fun p12 hp12 => ⟨sz (by show 3 ≤ 100000; decide), fun p13 hp13 => ?_⟩⟩
        have s12 := same_new hp12 (.tup [V.str "name", .str x])
        have s13 := same_new hp13 (.tup [V.str "give", .str jj, .ref p12])
        have gn : Gd (upd (upd H11 p12 (.tup [V.str "name", .str x])) p13 (.tup [V.str "give", .str jj, .ref p12])) p12 1 1 hF (xs ++ [x]) [] (mkL (.nam x) []) := gd_nam ⟨rfl, s13 _ _ upd_same⟩ hxW (List.mem_append_right _ List.mem_cons_self)
        refine ⟨p13, .give jj (mkL (.nam x) []), rfl, ((b10.three.trans b11.three).trans (but3_same s12)).trans (but3_same s13), (I11.same s12).same s13, s13 _ _ (s12 _ _ (b11 _ _ ns.1 h10)), ⟨p12, upd_same, gn.at_⟩, ⟨hjj, gn.ok, simple_mkL rfl (fun _ z => nomatch z), gn.sc, Nat.le_trans gn.cn (by decide), gn.dp.le (by decide)⟩, by show 1 ≤ y0.toNat; omega, List.nil_sublist _, List.nil_sublist _⟩
      · exact ⟨a9, q9, rfl, b10.three, I10, h10, O9.at_.tk (b10.tk I9.g.t), O9.ok, O9.cn, O9.s1, O9.s2⟩
    rintro σ10 H10 ⟨a10, q10, rfl, b10, I10, h10, pa10, ok10, cn10, su10, sj10⟩
    -- U
    refine ⟨_, rfl, _, rfl, _, rfl, _, rfl, _, rfl, _, rfl, _, rfl, _, rfl, sz (by show 1 ≤ 100000; decide), fun p11 hp11 => ?_⟩
    have s11 := same_new hp11 (.lst [V.str j])
    refine ⟨hl, p11, _, _, rfl, rfl, s11 _ _ I10.h, upd_same, sz (by rw [List.length_map]; show hs.length + 1 ≤ 100000; omega), fun p12 hp12 => ?_⟩
    have s12 := same_new hp12 (.lst (hs.map V.str ++ [V.str j]))
    have I12 := I10.same (s11.trans s12)
    have nn := (I10.same s11).g.new hp12
    have hH : (upd (upd H10 p11 (.lst [V.str j])) p12 (.lst (hs.map V.str ++ [V.str j]))) p12 = some (.lst ((hs ++ [j]).map V.str)) := by
      rw [upd_same, mapS]
    have h12 := s12 _ _ (s11 _ _ h10)
    have s1012 := s11.trans s12
    generalize upd (upd H10 p11 (.lst [V.str j])) p12 (.lst (hs.map V.str ++ [V.str j])) = H12 at I12 hH h12 s1012 ⊢
    have J12 : PtIn H12 tp kd wl pl ar p12 hF ws9 js9 xs (hs ++ [j]) := ⟨I12.g, I12.w, I12.a1, I12.a2, hH, nn.1, nn.2.1, nn.2.2, by simp, I12.wj, I12.l1, by rw [List.length_append, List.length_singleton]; omega⟩
    refine ⟨_, rfl, sp, _, _, _, rfl, rfl, SqL.of h12, at1, _, rfl, _, _, rfl, rfl, tp, kd, wl, pl, ar, p12, hF, ws9, js9, xs, hs ++ [j], y1, deep - 1, rfl, J12, py1, by omega, by omega, by omega, fun a13 q13 H13 ws13 js13 ls13 ms13 O13 => ?_⟩
    refine ⟨sz (by show 5 ≤ 100000; decide), fun p14 hp14 => ?_⟩
    have s14 := same_new hp14 (.tup [V.str "post", .str j, .str x, .ref a10, .ref a13])
    have k1013 : TK H10 H13 := (tk_same s1012).trans (I12.g.tk O13.b)
    have BE : But3 tp wl pl H H13 := (((B5.trans b6.three).trans b69).trans b10).trans ((but3_same s1012).trans O13.b)
    refine q p14 (.post j x q10 q13) _ ws13 js13 (x :: (ls9 ++ ls13)) (j :: (ms9 ++ ms13)) ⟨BE.trans (but3_same s14), O13.g.same s14, O13.wj, ?_, ?_, ⟨a10, a13, upd_same, (pa10.tk k1013).tk (tk_same s14), O13.at_.tk (tk_same s14)⟩, ⟨hjW, hxW, ok10, O13.ok⟩, ?_, (su10.append O13.s1).cons_cons x, (sj10.append O13.s2).cons_cons j⟩
    · rw [O9.e1, O13.e1]
      simp
    · rw [O9.e2, O13.e2]
      simp
    · have c13 := O13.cn
      show 1 + pcnt q10 + pcnt q13 ≤ room.toNat
      omega
  · have hnp : decide (V.str wd = V.str (Str.ofString "post")) = false := decide_eq_false fun z => hpost (V.str.inj z)
    refine ⟨_, rfl, rfl, _, rfl, itF hnp ?_⟩
    have hwd2 : wd = "tell" ∨ wd = "let" := hwd.resolve_left hpost
    refine ⟨_, rfl, _, rfl, tp, ar, xs, rfl, I4.g.t, I4.w, by omega, Nat.le_refl _, fun a5 u5 H5 b5 t5 gs => ?_⟩
    have I5 := I4.one b5 t5
    refine ⟨_, rfl, _, rfl, _, rfl, _, rfl, _, rfl, _, rfl, _, rfl, sz (by show 1 ≤ 100000; decide), fun p7 hp7 => ?_⟩
    have s7 := same_new hp7 (.lst [V.str x])
    refine ⟨ar, p7, _, _, rfl, rfl, s7 _ _ I5.w.1, upd_same, sz (by rw [List.length_map]; show xs.length + 1 ≤ 100000; omega), fun p8 hp8 => ?_⟩
    have s8 := same_new hp8 (.lst (xs.map V.str ++ [V.str x]))
    have I8 := moreW I5 (Nat.le_refl _) hp7 hp8
    have s58 := s7.trans s8
    generalize upd (upd H5 p7 (.lst [V.str x])) p8 (.lst (xs.map V.str ++ [V.str x])) = H8 at I8 s58 ⊢
    refine ⟨_, rfl, _, rfl, _, _, rfl, rfl, _, rfl, _, _, rfl, rfl, tp, kd, wl, pl, p8, hl, hF, wsx, js, xs ++ [x], hs, room - 1, deep - 1, rfl, I8, by omega, by omega, by omega, by omega, fun a9 q9 H9 ws9 js9 ls9 ms9 O9 => ?_⟩
    refine ⟨sz (by show 4 ≤ 100000; decide), fun p14 hp14 => ?_⟩
    have s14 := same_new hp14 (.tup [V.str wd, .str x, .ref a5, .ref a9])
    have k59 : TK H5 H9 := (tk_same s58).trans (I8.g.tk O9.b)
    have BE : But3 tp wl pl H H9 := ((B4.trans b5.three).trans (but3_same s58)).trans O9.b
    have hatT := ((gs hF).g.at_.tk k59).tk (tk_same s14)
    have hatP := O9.at_.tk (tk_same s14)
    have e1 : wsx ++ [x] = ws9 ++ (x :: ls9).reverse := by
      rw [O9.e1]
      simp
    have hc : 1 + pcnt q9 ≤ room.toNat := by
      have := O9.cn
      omega
    rcases hwd2 with rfl | rfl
    · exact q p14 (.tell x u5 q9) _ ws9 js9 (x :: ls9) ms9 ⟨BE.trans (but3_same s14), O9.g.same s14, O9.wj, e1, O9.e2, ⟨a5, a9, upd_same, hatT, hatP⟩, ⟨hxW, (gs hF).sm, O9.ok⟩, hc, O9.s1.cons_cons x, O9.s2⟩
    · exact q p14 (.lett x u5 q9) _ ws9 js9 (x :: ls9) ms9 ⟨BE.trans (but3_same s14), O9.g.same s14, O9.wj, e1, O9.e2, ⟨a5, a9, upd_same, hatT, hatP⟩, ⟨hxW, (gs hF).sm, O9.ok⟩, hc, O9.s1.cons_cons x, O9.s2⟩
end
end KB

namespace KB
open PySem L2

section
variable {P : Program} {w : World} {K : PySem.W.Frag} {mg : Str → Option Value} {base : Heap}
theorem all_part (T : Txt K mg) {f fg fh fe fs fq : Addr} {fd gd hd ed sd qd : FuncData} (F : Fun K "_law_part" "_law_part" s_law_part f fd) (G_law_digit : FnOk P w K mg base CX0 1 fg gd ["tape", "many"] spDig) (R_law_digit : Ref K mg "_law_digit" fg gd ["tape", "many"])
    (G_law_some_hand : FnOk P w K mg base CX0 2 fh hd ["tape", "known", "hands"] spHand) (R_law_some_hand : Ref K mg "_law_some_hand" fh hd ["tape", "known", "hands"]) (G_law_end : FnOk P w K mg base CX0 6 fe ed ["tape", "known", "around", "hands"] spEnd) (R_law_end : Ref K mg "_law_end" fe ed ["tape", "known", "around", "hands"])
    (G_law_simple : FnOk P w K mg base CX0 5 fs sd ["tape", "around", "deep"] (spSimple 1)) (R_law_simple : Ref K mg "_law_simple" fs sd ["tape", "around", "deep"]) (G_law_shares : FnOk P w K mg base CX0 2 fq qd ["tape", "room", "many"] spShr) (R_law_shares : Ref K mg "_law_shares" fq qd ["tape", "room", "many"])
    (R_law_part : Ref K mg "_law_part" f fd ["tape", "known", "around", "hands", "room", "deep"]) : ∀ n : Nat, FnOk P w K mg base CX0 (n + 7) f fd ["tape", "known", "around", "hands", "room", "deep"] (spPart n)
  | 0 => ok_part T 0 F G_law_digit R_law_digit G_law_some_hand R_law_some_hand G_law_end R_law_end G_law_simple R_law_simple G_law_shares R_law_shares no_sp R_law_part
  | n + 1 => ok_part T (n + 1) F G_law_digit R_law_digit G_law_some_hand R_law_some_hand G_law_end R_law_end G_law_simple R_law_simple G_law_shares R_law_shares (all_part T F G_law_digit R_law_digit G_law_some_hand R_law_some_hand G_law_end R_law_end G_law_simple R_law_simple G_law_shares R_law_shares R_law_part n) R_law_part
/-! ### _law_turned_body -/
def spTBody : Sp := fun vs H Q _ => ∃ (tp kd wl pl nl : Addr) (hF : Str → Option Nat) (ws js xs : List Str), vs = [.ref tp, .ref kd, .ref nl] ∧ GT H tp kd wl pl hF ws js ∧ Wls H nl xs ∧ nl ≠ wl ∧ nl ≠ pl ∧ ws.length ≤ js.length ∧ xs.length + ws.length ≤ 100 ∧ js.length ≤ 100 ∧
  ∀ a p H' ws' js' ls ms, PtOut H H' tp kd wl pl hF ws js xs ["home"] 13 a p ws' js' ls ms → Q (.ref a) H'
theorem PtOut.le {H H' : Hp} {tp kd wl pl : Addr} {hF : Str → Option Nat} {ws js xs hs : List Str} {n m : Nat} {a : Addr} {p : Pt} {ws' js' ls ms : List Str} (h : n ≤ m) (O : PtOut H H' tp kd wl pl hF ws js xs hs n a p ws' js' ls ms) : PtOut H H' tp kd wl pl hF ws js xs hs m a p ws' js' ls ms :=
  ⟨O.b, O.g, O.wj, O.e1, O.e2, O.at_, O.ok, Nat.le_trans O.cn h, O.s1, O.s2⟩
theorem PtOut.pre {H0 H H' : Hp} {tp kd wl pl : Addr} {hF : Str → Option Nat} {ws js xs hs : List Str} {n : Nat} {a : Addr} {p : Pt} {ws' js' ls ms : List Str} (b : But3 tp wl pl H0 H) (O : PtOut H H' tp kd wl pl hF ws js xs hs n a p ws' js' ls ms) : PtOut H0 H' tp kd wl pl hF ws js xs hs n a p ws' js' ls ms :=
  ⟨b.trans O.b, O.g, O.wj, O.e1, O.e2, O.at_, O.ok, O.cn, O.s1, O.s2⟩
abbrev s_law_turned_body : Stmt := top 20
theorem scLturned_body : FnScope ["tape", "known", "names", "one", "two"] ["tape", "known", "names"] (defScope s_law_turned_body) := ⟨rfl, rfl, rfl, by decide +kernel, rfl, by decide +kernel, by decide +kernel⟩
theorem ok_tbody (T : Txt K mg) {f fg fp : Addr} {fd gd pd_ : FuncData} (F : Fun K "_law_turned_body" "_law_turned_body" s_law_turned_body f fd) (G_law_digit : FnOk P w K mg base CX0 1 fg gd ["tape", "many"] spDig) (R_law_digit : Ref K mg "_law_digit" fg gd ["tape", "many"])
    (G_law_part : FnOk P w K mg base CX0 15 fp pd_ ["tape", "known", "around", "hands", "room", "deep"] (spPart 8)) (R_law_part : Ref K mg "_law_part" fp pd_ ["tape", "known", "around", "hands", "room", "deep"]) : FnOk P w K mg base CX0 16 f fd ["tape", "known", "names"] spTBody := by
  refine F.ok scLturned_body (fun vs H Q E h => ?_) (fun cdv A outer s H vs Q E hr h => ?_)
  · obtain ⟨tp, kd, wl, pl, nl, hF, ws, js, xs, rfl, _⟩ := h
    rfl
  obtain ⟨tp, kd, wl, pl, nl, hF, ws, js, xs, rfl, g, hw, n1, n2, wj, l1, l2, q⟩ := h
  refine ⟨_, (pss_cons (ps_if (PW.pt (pw_and (pt_cmpR (op_neD hr.units) (pv 2) (pe_lst pa_nil) (nomark _)) (pw_and1 (pt_cmpR op_gt (pe_call G_law_digit (hr.mono (by omega)) rfl R_law_digit.m R_law_digit.k R_law_digit.b .nil pass0 (pa_cons (pv 0) (pa_cons pe_int pa_nil))) pe_int (nomark _))))) (pss_cons (ps_set (i := 3) scLturned_body.nd rfl (Or.inl rfl) (pe_call G_law_part (hr.mono (by omega)) rfl R_law_part.m R_law_part.k R_law_part.b .nil pass0 (pa_cons (pv 0) (pa_cons (pv 1) (pa_cons (pv 2) (pa_cons (pe_lst (pa_cons pe_str pa_nil)) (pa_cons (pe_dget (hu_of hr) (pv 1) pe_str (fun _ _ => rfl)) (pa_cons pe_int pa_nil))))))))
    (pss_cons (ps_set (i := 4) scLturned_body.nd rfl (Or.inl rfl) (pe_call G_law_part (hr.mono (by omega)) rfl R_law_part.m R_law_part.k R_law_part.b .nil pass0 (pa_cons (pv 0) (pa_cons (pv 1) (pa_cons (pv 2) (pa_cons (pe_lst (pa_cons pe_str pa_nil)) (pa_cons pe_int (pa_cons pe_int pa_nil))))))))
    (pss_one (ps_ret (pe_tup (pa_cons pe_str (pa_cons (pe_tup (pa_cons pe_str (pa_cons (pe_ix ix_list (pv 2) pe_int (fun _ _ => rfl)) pa_nil))) (pa_cons (pv 3) (pa_cons (pv 4) pa_nil))))))))) pss_nil)
    (pss_one (ps_ret (pe_call G_law_part (hr.mono (by omega)) rfl R_law_part.m R_law_part.k R_law_part.b .nil pass0 (pa_cons (pv 0) (pa_cons (pv 1) (pa_cons (pv 2) (pa_cons (pe_lst (pa_cons pe_str pa_nil)) (pa_cons (pe_dget (hu_of hr) (pv 1) pe_str (fun _ _ => rfl)) (pa_cons pe_int pa_nil)))))))))), ?_⟩
  -- home around
  have inH : ∀ {H1 : Hp} {ws1 js1 : List Str} {ph : Addr}, GT H1 tp kd wl pl hF ws1 js1 → Wls H1 nl xs → H1 ph = none → ws1.length ≤ js1.length → ws1.length ≤ ws.length → js1.length ≤ js.length → PtIn (upd H1 ph (.lst [V.str "home"])) tp kd wl pl nl ph hF ws1 js1 xs ["home"] := by
    intro H1 ws1 js1 ph g1 w1 hph a1 a2 a3
    have sp := same_new hph (.lst [V.str "home"])
    have nn := g1.new hph
    exact ⟨g1.same sp, w1.but (but_same sp) g1.t, n1, n2, upd_same, nn.1, nn.2.1, nn.2.2, by simp, a1, by omega, by show 1 + js1.length ≤ 200; omega⟩
  obtain ⟨el, hd', fs', kvs, rm, st, k1, rm1, rm9, _⟩ := g.k
  have nk := g.ntk k1 (fun _ z => nomatch z)
  have finalW : ∀ H1, But1 tp H H1 → Tp H1 tp → _ := fun (H1 : Hp) (b1 : But1 tp H H1) (t1 : Tp H1 tp) =>
    (show (tRet (tCall (spPart 8) [] E0 (tCons (tVar 0) (tCons (tVar 1) (tCons (tVar 2) (tCons (tLst (tCons (tC (.str "home")) tNil)) (tCons (tDGet (tVar 1) (tC (.str "room"))) (tCons (tC (.int 8)) tNil)))))))) { nx := fun x H' => Q V.non H', rt := Q } [some (.ref tp), some (.ref kd), some (.ref nl), none, none] H1 from by
      refine ⟨_, rfl, _, rfl, _, rfl, sz (by show 1 ≤ 100000; decide), fun ph hph => ?_⟩
      have s2 := same_new hph (.lst [V.str "home"])
      have g1 := g.one b1 t1
      refine ⟨_, rfl, kd, _, rfl, gt_room (s2 _ _ (b1 _ _ nk.1 k1)), tp, kd, wl, pl, nl, ph, hF, ws, js, xs, ["home"], rm, 8, rfl, inH g1 (hw.but b1 g.t) hph wj (Nat.le_refl _) (Nat.le_refl _), rm1, by omega, by decide, by decide, fun a p H' ws' js' ls ms O => ?_⟩
      exact q a p H' ws' js' ls ms ((O.pre (b1.three.trans (but3_same s2))).le (by omega)))
  refine ⟨_, rfl, sz (by show 0 ≤ 100000; decide), fun p0 hp0 => ?_⟩
  have s0 := same_new hp0 (.lst [])
  refine ⟨.list (xs.map PyData.str), .list [], .lst (SqL.of (s0 _ _ hw.1)) (dp_strs xs), .lst (SqL.of upd_same) .nil, shaped_strs hw.2, rfl, _, rfl, ?_⟩
  rw [eqv_nil]
  have g0 := g.same s0
  have w0 := hw.but (but_same s0) g.t
  have b0 : But1 tp H (upd H p0 (.lst [])) := but_same s0
  generalize upd H p0 (.lst []) = H0 at g0 w0 b0 ⊢
  cases xs with
  | nil => exact itF rfl (iteF (finalW H0 b0 g0.t))
  | cons x xr =>
    refine itT rfl ⟨_, rfl, tp, 4, rfl, g0.t, by decide, by decide, fun r H1 r0 r1 b1 t1 => ?_⟩
    have b01 := b0.trans b1
    refine ⟨_, _, rfl, rfl, _, rfl, ?_⟩
    refine ite2 (fun c => ?_) (fun c => finalW H1 b01 t1)
    have g1 := g0.one b1 t1
    have w1 := w0.but b1 g0.t
    have k11 := b01 _ _ nk.1 k1
    -- one
    refine ⟨_, rfl, _, rfl, _, rfl, sz (by show 1 ≤ 100000; decide), fun ph hph => ?_⟩
    have s2 := same_new hph (.lst [V.str "home"])
    refine ⟨_, rfl, kd, _, rfl, gt_room (s2 _ _ k11), tp, kd, wl, pl, nl, ph, hF, ws, js, x :: xr, ["home"], rm, 7, rfl, inH g1 w1 hph wj (Nat.le_refl _) (Nat.le_refl _), rm1, by omega, by decide, by decide, fun a3 q3 H3 ws3 js3 ls3 ms3 O3 => ?_⟩
    have le1 : ws3.length ≤ ws.length := by
      rw [O3.e1, List.length_append]
      omega
    have le2 : js3.length ≤ js.length := by
      rw [O3.e2, List.length_append]
      omega
    have B3 : But3 tp wl pl H1 H3 := (but3_same s2).trans O3.b
    have w3 := w1.three B3 g1 n1 n2
    -- two
    refine ⟨_, rfl, _, rfl, _, rfl, sz (by show 1 ≤ 100000; decide), fun ph4 hph4 => ?_⟩
    have s4 := same_new hph4 (.lst [V.str "home"])
    refine ⟨tp, kd, wl, pl, nl, ph4, hF, ws3, js3, x :: xr, ["home"], 3, 2, rfl, inH O3.g w3 hph4 O3.wj le1 le2, by decide, by decide, by decide, by decide, fun a5 q5 H5 ws5 js5 ls5 ms5 O5 => ?_⟩
    have B5 : But3 tp wl pl H3 H5 := (but3_same s4).trans O5.b
    have w5 := w3.three B5 O3.g n1 n2
    refine ⟨_, rfl, nl, _, _, _, rfl, rfl, SqL.of w5.1, at0, sz (by show 2 ≤ 100000; decide), fun p6 hp6 => ⟨_, rfl, _, rfl, sz (by show 4 ≤ 100000; decide), fun p7 hp7 => ?_⟩⟩
    have s6 := same_new hp6 (.tup [V.str "name", .str x])
    have s7 := same_new hp7 (.tup [V.str "if", .ref p6, .ref a3, .ref a5])
    have s67 := s6.trans s7
    have gn := gd_nam (hd := hF) (xs := x :: xr) (H := upd (upd H5 p6 (.tup [V.str "name", .str x])) p7 (.tup [V.str "if", .ref p6, .ref a3, .ref a5])) (a := p6) (x := x) ⟨rfl, s7 _ _ upd_same⟩ (hw.2 x List.mem_cons_self) List.mem_cons_self
    have k35 : TK H3 H5 := O3.g.tk B5
    refine q p7 (.iff (mkL (.nam x) []) q3 q5) _ ws5 js5 (ls3 ++ ls5) (ms3 ++ ms5) ⟨((b01.three.trans B3).trans B5).trans (but3_same s67), O5.g.same s67, O5.wj, ?_, ?_, ⟨p6, a3, a5, upd_same, gn.at_, (O3.at_.tk k35).tk (tk_same s67), O5.at_.tk (tk_same s67)⟩, ⟨⟨gn.ok, simple_mkL rfl (fun _ z => nomatch z), gn.sc, Nat.le_trans gn.cn (by decide), gn.dp.le (by decide)⟩, O3.ok, O5.ok⟩, ?_, O3.s1.append O5.s1, O3.s2.append O5.s2⟩
    · rw [O3.e1, O5.e1]
      simp
    · rw [O3.e2, O5.e2]
      simp
    · have c3 := O3.cn
      have c5 : pcnt q5 ≤ 3 := O5.cn
      show 1 + pcnt q3 + pcnt q5 ≤ 13
      omega
end
end KB

namespace KB
open PySem L2

/-! ### the words that are drawn -/
def lettersS : Str := "abcdefghijklmnopqrstuvwxyz"
def sgn (i : Nat) : Str := ⟨#[97 + i % 26]⟩
def endsL : List Str := ["", "a", "omelons"]
def someL : List Str := ["give", "ask", "post", "plus", "less", "name", "number", "to", "as", "f", "x", "aq", "bq", "lets", "ifs", "ina", "homes", "q"]
def w0 (turn : Nat) (e : Str) (k : Nat) : Str := sgn (turn + k) ++ e
def w1 (turn : Nat) (k : Nat) : Str := repS (sgn (turn + k / 8)) (1 + (k : Int) % 8)
def w2 (turn : Nat) (k : Nat) : Str := someL.getD ((turn + k) % 18) ""
def good16 (f : Nat → Str) : Bool := ((List.range 16).map f).all isW && decide ((List.range 16).map f).Nodup
theorem good_w0 : ∀ turn < 26, ∀ e ∈ endsL, good16 (w0 turn e) = true := by decide +kernel
theorem good_w1 : ∀ turn < 26, good16 (w1 turn) = true := by decide +kernel
theorem good_w2 : ∀ turn < 26, good16 (w2 turn) = true := by decide +kernel
theorem good_of {f : Nat → Str} (h : good16 f = true) {n : Nat} (hn : n ≤ 16) : (∀ x ∈ (List.range n).map f, isW x = true) ∧ ((List.range n).map f).Nodup := by
  unfold good16 at h
  rw [Bool.and_eq_true] at h
  have hs : ((List.range n).map f).Sublist ((List.range 16).map f) := (List.range_sublist.mpr hn).map f
  exact ⟨fun x hx => List.all_eq_true.mp h.1 x (hs.subset hx), (of_decide_eq_true h.2).sublist hs⟩
theorem letters_at {i : Int} (h0 : 0 ≤ i) (h1 : i < 26) : atI lettersS.cps.toList i = some (97 + i.toNat) := by
  have e : lettersS.cps.toList = (List.range 26).map (97 + ·) := by decide +kernel
  rw [e]
  obtain ⟨n, rfl⟩ : ∃ n : Nat, i = (n : Int) := ⟨i.toNat, by omega⟩
  rw [Int.toNat_natCast]
  refine atI_nat ?_
  rw [List.getElem?_map, List.getElem?_range (by omega)]
  rfl
theorem range_push {f : Nat → Str} (i : Nat) : ((List.range i).map f).map V.str ++ [V.str (f i)] = ((List.range (i + 1)).map f).map V.str := by
  rw [List.range_succ, List.map_append, List.map_append]
  rfl

section
variable {P : Program} {w : World} {K : PySem.W.Frag} {mg : Str → Option Value} {base : Heap}
def spWords : Sp := fun vs H Q _ => ∃ (tp : Addr) (many : Int), vs = [.ref tp, .int many] ∧ Tp H tp ∧ 0 ≤ many ∧ many ≤ 16 ∧
  ∀ (p : Addr) (xs : List Str) (H' : Hp), But1 tp H H' → Tp H' tp → H p = none → Wls H' p xs → (xs.length : Int) = many → xs.Nodup → Q (.ref p) H'
abbrev s_law_words : Stmt := top 11
theorem scLwords : FnScope ["tape", "many", "letters", "way", "turn", "ends", "k", "some"] ["tape", "many"] (defScope s_law_words) := ⟨rfl, rfl, rfl, by decide +kernel, rfl, by decide +kernel, by decide +kernel⟩
theorem ok_words (T : Txt K mg) {f g : Addr} {fd gd : FuncData} (F : Fun K "_law_words" "_law_words" s_law_words f fd) (G_law_digit : FnOk P w K mg base CX0 1 g gd ["tape", "many"] spDig) (R_law_digit : Ref K mg "_law_digit" g gd ["tape", "many"]) : FnOk P w K mg base CX0 2 f fd ["tape", "many"] spWords := by
  refine F.ok scLwords (fun vs H Q E h => ?_) (fun cdv A outer s H vs Q E hr h => ?_)
  · obtain ⟨tp, many, rfl, _⟩ := h
    rfl
  obtain ⟨tp, many, rfl, ht, hm0, hm1, q⟩ := h
  refine ⟨_, (pss_cons (ps_set (i := 2) scLwords.nd rfl (Or.inr rfl) pe_str)
    (pss_cons (ps_set (i := 3) scLwords.nd rfl (Or.inl rfl) (pe_call G_law_digit hr rfl R_law_digit.m R_law_digit.k R_law_digit.b .nil pass0 (pa_cons (pv 0) (pa_cons pe_int pa_nil))))
    (pss_cons (ps_set (i := 4) scLwords.nd rfl (Or.inr rfl) (pe_call G_law_digit hr rfl R_law_digit.m R_law_digit.k R_law_digit.b .nil pass0 (pa_cons (pv 0) (pa_cons pe_int pa_nil))))
    (pss_cons (ps_if (pt_cmpR op_eq (pv 3) pe_int (nomark _)) (pss_cons (ps_set (i := 5) scLwords.nd rfl (Or.inr rfl) (pe_ix ix_list (pe_lst (pa_cons pe_str (pa_cons pe_str (pa_cons pe_str pa_nil)))) (pe_call G_law_digit hr rfl R_law_digit.m R_law_digit.k R_law_digit.b .nil pass0 (pa_cons (pv 0) (pa_cons pe_int pa_nil))) (fun _ _ => rfl)))
    (pss_one (ps_ret (pe_lc (own := [("k", 6)]) (g := gName 6) (by rfl) scLwords.nd (pi_range1 rfl T.m_range (pa_cons (pv 1) pa_nil)) (blkOk_by (own := [("k", 6)]) (N := ["tape", "many", "letters", "way", "turn", "ends", "k", "some"]) (sc := defScope s_law_words) (by decide +kernel)) (fun _ _ _ _ _ => (pg_name (i := 6) scLwords.nd rfl (Or.inl rfl))) (fun _ _ _ _ _ => pts_nil) (fun _ _ _ _ _ => (pe_op op_add_str (pe_ix ix_str (pv 2) (pe_op op_mod (pe_op op_add (pv 4) (pv 6)) pe_int) (fun _ _ => rfl)) (pv 5))))))) pss_nil)
    (pss_cons (ps_if (pt_cmpR op_eq (pv 3) pe_int (nomark _)) (pss_one (ps_ret (pe_lc (own := [("k", 6)]) (g := gName 6) (by rfl) scLwords.nd (pi_range1 rfl T.m_range (pa_cons (pv 1) pa_nil)) (blkOk_by (own := [("k", 6)]) (N := ["tape", "many", "letters", "way", "turn", "ends", "k", "some"]) (sc := defScope s_law_words) (by decide +kernel)) (fun _ _ _ _ _ => (pg_name (i := 6) scLwords.nd rfl (Or.inl rfl))) (fun _ _ _ _ _ => pts_nil) (fun _ _ _ _ _ => (pe_op op_mul_str (pe_ix ix_str (pv 2) (pe_op op_mod (pe_op op_add (pv 4) (pe_op op_fdiv (pv 6) pe_int)) pe_int) (fun _ _ => rfl)) (pe_op op_add pe_int (pe_op op_mod (pv 6) pe_int))))))) pss_nil)
    (pss_cons (ps_set (i := 7) scLwords.nd rfl (Or.inr rfl) (pe_lst (pa_cons pe_str (pa_cons pe_str (pa_cons pe_str (pa_cons pe_str (pa_cons pe_str (pa_cons pe_str (pa_cons pe_str (pa_cons pe_str (pa_cons pe_str (pa_cons pe_str (pa_cons pe_str pa_nil)))))))))))))
    (pss_cons (ps_set (i := 7) scLwords.nd rfl (Or.inr rfl) (pe_op op_cat (pv 7) (pe_lst (pa_cons pe_str (pa_cons pe_str (pa_cons pe_str (pa_cons pe_str (pa_cons pe_str (pa_cons pe_str (pa_cons pe_str pa_nil))))))))))
    (pss_one (ps_ret (pe_lc (own := [("k", 6)]) (g := gName 6) (te := tOp (rIxL K) (tVar 7) (tOp (rI (fun _ j => 0 < j) fun i j => .int (i % j)) (tOp (rI0 fun i j => .int (i + j)) (tVar 4) (tVar 6)) (tC (.int 18)))) (by rfl) scLwords.nd (pi_range1 rfl T.m_range (pa_cons (pv 1) pa_nil)) (blkOk_by (own := [("k", 6)]) (N := ["tape", "many", "letters", "way", "turn", "ends", "k", "some"]) (sc := defScope s_law_words) (by decide +kernel)) (fun _ _ _ _ _ => (pg_name (i := 6) scLwords.nd rfl (Or.inl rfl))) (fun _ _ _ _ _ => pts_nil) (fun _ _ _ _ _ => (pe_ix ix_list (pv 7) (pe_op op_mod (pe_op op_add (pv 4) (pv 6)) pe_int) (fun _ _ => rfl))))))))))))), ?_⟩
  have fin : ∀ (f : Nat → Str), good16 f = true → ∀ (H1 : Hp) (D : Addr) (H' : Hp), But1 tp H H1 → Tp H1 tp → H1 D = none → Same H1 H' → H' D = some (.lst (((List.range many.toNat).map f).map V.str)) → Q (.ref D) H' := by
    intro f hf H1 D H' b1 t1 hD s1 h1
    obtain ⟨e1, e2⟩ := good_of hf (n := many.toNat) (by omega)
    refine q D _ H' (b1.trans (but_same s1)) (t1.same s1) ?_ ⟨h1, e1⟩ (by rw [List.length_map, List.length_range]; omega) e2
    cases e : H D with
    | none => rfl
    | some o =>
      obtain ⟨z, hz⟩ := t1
      rw [b1 _ _ (ne_of_none hz hD).symm e] at hD
      cases hD
  refine ⟨_, rfl, tp, 3, rfl, ht, by decide, by decide, fun way H1 _ _ b1 t1 => ?_⟩
  refine ⟨_, rfl, tp, 26, rfl, t1, by decide, by decide, fun turn H2 r0 r1 b2 t2 => ?_⟩
  have b12 := b1.trans b2
  refine ⟨_, rfl, rfl, _, rfl, ?_⟩
  refine ite2 (fun c1 => ?_) (fun c1 => ?_)
  · refine ⟨sz (by show 3 ≤ 100000; decide), fun p hp => ?_⟩
    have s3 := same_new hp (.lst [.str "", .str "a", .str "omelons"])
    have np : p ≠ tp := by
      obtain ⟨z, hz⟩ := t2
      exact (ne_of_none hz hp).symm
    refine ⟨_, rfl, tp, 3, rfl, t2.same s3, by decide, by decide, fun r H3 r2 r3 b3 t3 => ?_⟩
    obtain ⟨v, hv, hm⟩ := at_some (xs := endsL.map V.str) r2 r3
    obtain ⟨e, he, rfl⟩ := List.mem_map.mp hm
    have hel : e.length ≤ 100 := by
      have : ∀ x ∈ endsL, x.length ≤ 100 := by decide +kernel
      exact this e he
    refine ⟨p, _, _, _, rfl, rfl, SqL.of (b3 _ _ np upd_same), hv, ?_⟩
    have b4 := (b12.trans (but_same s3)).trans b3
    refine ⟨_, rfl, many, rfl, by omega, by omega, fun D hD => lc_range (lo := 0) (n := many.toNat) (fun i H' => Same H3 H' ∧ H' D = some (.lst (((List.range i).map (w0 turn.toNat e)).map V.str))) ⟨same_new hD _, upd_same⟩ ?_ ?_⟩
    · rintro i H' hi ⟨s5, h5⟩
      have ei : (turn + (0 + (i : Nat))) % 26 = (((turn.toNat + i) % 26 : Nat) : Int) := by omega
      refine ⟨rfl, ?_⟩
      dsimp only [tYes]
      refine iteT ?_
      refine ⟨_, rfl, _, rfl, _, rfl, _, _, rfl, rfl, _, _, rfl, rfl, (by show (0 : Int) < 26; decide), lettersS, _, _, rfl, rfl, (by decide +kernel), letters_at (Int.emod_nonneg _ (by decide)) (Int.emod_lt_of_pos _ (by decide)), ?_⟩
      refine ⟨_, rfl, _, _, rfl, rfl, sz (by show 1 + e.length ≤ 100000; omega), ?_⟩
      refine ⟨_, h5, Nat.lt_of_le_of_lt (m := 100) (by rw [List.length_map, List.length_map, List.length_range]; omega) (by decide), same_mut s5 hD, ?_⟩
      rw [upd_same, ← range_push]
      have e9 : w0 turn.toNat e i = (⟨#[97 + ((turn + (0 + (i : Nat))) % 26).toNat]⟩ : Str) ++ e := by
        rw [ei, Int.toNat_natCast]
        rfl
      rw [e9]
    · rintro H' ⟨s5, h5⟩
      exact fin _ (good_w0 turn.toNat (by omega) e he) H3 D H' b4 t3 hD s5 h5
  refine ⟨_, rfl, rfl, _, rfl, ?_⟩
  refine ite2 (fun c2 => ?_) (fun c2 => ?_)
  · refine ⟨_, rfl, many, rfl, by omega, by omega, fun D hD => lc_range (lo := 0) (n := many.toNat) (fun i H' => Same H2 H' ∧ H' D = some (.lst (((List.range i).map (w1 turn.toNat)).map V.str))) ⟨same_new hD _, upd_same⟩ ?_ ?_⟩
    · rintro i H' hi ⟨s5, h5⟩
      have ei : (turn + (0 + (i : Nat)) / 8) % 26 = (((turn.toNat + i / 8) % 26 : Nat) : Int) := by omega
      refine ⟨rfl, ?_⟩
      dsimp only [tYes]
      refine iteT ?_
      refine ⟨_, rfl, _, rfl, _, rfl, _, _, rfl, rfl, ⟨by decide, by decide⟩, _, _, rfl, rfl, _, _, rfl, rfl, (by show (0 : Int) < 26; decide), lettersS, _, _, rfl, rfl, (by decide +kernel), letters_at (Int.emod_nonneg _ (by decide)) (Int.emod_lt_of_pos _ (by decide)), ?_⟩
      refine ⟨_, rfl, _, _, rfl, rfl, (by show (0 : Int) < 8; decide), _, _, rfl, rfl, _, _, rfl, rfl, by omega, by omega, Nat.le_refl 1, by show 1 ≤ 1000; decide, ?_⟩
      refine ⟨_, h5, Nat.lt_of_le_of_lt (m := 100) (by rw [List.length_map, List.length_map, List.length_range]; omega) (by decide), same_mut s5 hD, ?_⟩
      rw [upd_same, ← range_push]
      have e9 : w1 turn.toNat i = repS (⟨#[97 + ((turn + (0 + (i : Nat)) / 8) % 26).toNat]⟩ : Str) (1 + (0 + (i : Nat)) % 8) := by
        rw [ei, Int.toNat_natCast, Int.zero_add]
        rfl
      rw [e9]
    · rintro H' ⟨s5, h5⟩
      exact fin _ (good_w1 turn.toNat (by omega)) H2 D H' b12 t2 hD s5 h5
  · refine ⟨sz (by show 11 ≤ 100000; decide), fun p1 hp1 => ?_⟩
    have s3 := same_new hp1 (.lst ((someL.take 11).map V.str))
    refine ⟨_, rfl, sz (by show 7 ≤ 100000; decide), fun p2 hp2 => ?_⟩
    have s4 := same_new hp2 (.lst ((someL.drop 11).map V.str))
    refine ⟨p1, p2, (someL.take 11).map V.str, (someL.drop 11).map V.str, rfl, rfl, s4 _ _ upd_same, upd_same, sz (by show 18 ≤ 100000; decide), fun p3 hp3 => ?_⟩
    have s5 := same_new hp3 (.lst ((someL.take 11).map V.str ++ (someL.drop 11).map V.str))
    have s35 := s3.trans (s4.trans s5)
    have h3 : upd (upd (upd H2 p1 (.lst ((someL.take 11).map V.str))) p2 (.lst ((someL.drop 11).map V.str))) p3 (.lst ((someL.take 11).map V.str ++ (someL.drop 11).map V.str)) p3 = some (.lst (someL.map V.str)) := upd_same
    have t3 := t2.same s35
    have b3 := b12.trans (but_same s35)
    refine ⟨_, rfl, many, rfl, by omega, by omega, fun D hD => lc_range (lo := 0) (n := many.toNat) (fun i H' => Same (upd (upd (upd H2 p1 (.lst ((someL.take 11).map V.str))) p2 (.lst ((someL.drop 11).map V.str))) p3 (.lst ((someL.take 11).map V.str ++ (someL.drop 11).map V.str))) H' ∧ H' D = some (.lst (((List.range i).map (w2 turn.toNat)).map V.str))) ⟨same_new hD _, upd_same⟩ ?_ ?_⟩
    · rintro i H' hi ⟨s6, h6⟩
      have ei : (turn + (0 + (i : Nat))) % 18 = (((turn.toNat + i) % 18 : Nat) : Int) := by omega
      have hat : atI (someL.map V.str) ((turn + (0 + (i : Nat))) % 18) = some (V.str (w2 turn.toNat i)) := by
        rw [ei]
        refine atI_nat ?_
        rw [List.getElem?_map]
        unfold w2
        have hl : (turn.toNat + i) % 18 < someL.length := Nat.mod_lt _ (by decide)
        rw [List.getElem?_eq_getElem hl, List.getD_eq_getElem?_getD, List.getElem?_eq_getElem hl]
        rfl
      refine ⟨rfl, ?_⟩
      dsimp only [tYes]
      refine iteT ?_
      refine ⟨_, rfl, _, rfl, _, rfl, _, _, rfl, rfl, _, _, rfl, rfl, (by show (0 : Int) < 18; decide), p3, _, _, _, rfl, rfl, SqL.of (s6 _ _ h3), hat, ?_⟩
      refine ⟨_, h6, Nat.lt_of_le_of_lt (m := 100) (by rw [List.length_map, List.length_map, List.length_range]; omega) (by decide), same_mut s6 hD, ?_⟩
      rw [upd_same, ← range_push]
    · rintro H' ⟨s6, h6⟩
      exact fin _ (good_w2 turn.toNat (by omega)) _ D H' b3 t3 hD s6 h6
end
end KB

namespace KB
open PySem L2

/-! ### turned books -/
def But2 (tp wl : Addr) (H H' : Hp) : Prop := ∀ b o, b ≠ tp → b ≠ wl → H b = some o → H' b = some o
theorem But2.refl (tp wl : Addr) (H : Hp) : But2 tp wl H H := fun _ _ _ _ h => h
abbrev TEr := Str × List Str × Pt
def TErV (H : Hp) (e : TEr) (v : V) : Prop := ∃ q r b, v = .ref q ∧ H q = some (.tup [.str e.1, .ref r, .ref b]) ∧ H r = some (.tup (e.2.1.map V.str)) ∧ PAt H e.2.2 b
theorem TErV.tk {H H' : Hp} (t : TK H H') {e : TEr} {v : V} (h : TErV H e v) : TErV H' e v :=
  let ⟨q, r, b, e1, h1, h2, h3⟩ := h; ⟨q, r, b, e1, t _ _ h1, t _ _ h2, h3.tk t⟩
def TBkAt (H : Hp) (es : List TEr) (vs : List V) (p : Addr) : Prop := H p = some (.tup vs) ∧ All2 (TErV H) es vs
structure GdTE (hF : Str → Option Nat) (e : TEr) : Prop where
  w : isW e.1 = true
  ws : ∀ x ∈ e.2.1, isW x = true
  n4 : e.2.1.length ≤ 4
  ok : okP hF e.2.2 e.2.1 ["home"]
  cn : pcnt e.2.2 ≤ 13
  hf : hF e.1 = some e.2.1.length
  un : (e.2.1 ++ wP e.2.2).Nodup
  uj : (jP e.2.2).Nodup
structure GdTB (es : List TEr) : Prop where
  len : 1 ≤ es.length ∧ es.length ≤ 6
  nd : (es.map (·.1)).Nodup
  er : ∃ hF : Str → Option Nat, (∀ e ∈ es, GdTE hF e) ∧ ∀ f n, hF f = some n → f ∈ es.map (·.1)
def knT4 (el hd wl : Addr) (room : Int) : List (Key × V) := [(kgE, .ref el), (kgH, .ref hd), (kgW, .ref wl), (kgR, .int room)]
theorem merge_kn4 (el hd wl : Addr) (room : Int) : mergeK [] (knT4 el hd wl room) = knT4 el hd wl room := rfl
def hFof (fs : List Str) (kvs : List (Key × V)) (f : Str) : Option Nat :=
  if f ∈ fs then (match valV kvs (Sum.inr f) with | some (.int n) => some n.toNat | _ => none) else none
theorem hFof_at {fs : List Str} {kvs : List (Key × V)} {f : Str} {n : Int} (h : f ∈ fs) (e : valV kvs (Sum.inr f) = some (.int n)) : hFof fs kvs f = some n.toNat := by
  unfold hFof
  rw [if_pos h, e]
theorem hFof_in {fs : List Str} {kvs : List (Key × V)} {f : Str} {n : Nat} (h : hFof fs kvs f = some n) : f ∈ fs := by
  unfold hFof at h
  by_cases c : f ∈ fs
  · exact c
  · rw [if_neg c] at h
    cases h

theorem cut_to {xs : List V} {i : Int} (h0 : 0 ≤ i) (h : i.toNat ≤ xs.length) : cutV xs none (some i) = xs.take i.toNat := by
  unfold cutV
  rw [sIx_no, sIx_at h0 h, List.drop_zero, Nat.sub_zero]

section
variable {P : Program} {w : World} {K : PySem.W.Frag} {mg : Str → Option Value} {base : Heap}
/-! ### _law_turned_book -/
def spTBook (K : PySem.W.Frag) : Sp := fun vs H Q _ => ∃ (sc : Addr) (ns : List Int) (start : Int) (st : Bool), vs = [.ref sc, .int start, .bl st] ∧ SqL K H sc (ns.map V.int) ∧ 0 ≤ start ∧ start ≤ 100 ∧ ∀ p es us H', Same H H' → TBkAt H' es us p → GdTB es → Q (.ref p) H'
abbrev s_law_turned_book : Stmt := top 21
theorem scLturned_book : FnScope ["script", "start", "straight", "head", "errands", "heads", "f", "room", "found", "k", "tape", "words", "names", "known"] ["script", "start", "straight"] (defScope s_law_turned_book) := ⟨rfl, rfl, rfl, by decide +kernel, rfl, by decide +kernel, by decide +kernel⟩
theorem ok_tbook (T : Txt K mg) {f fg ft fw fb : Addr} {fd gd td wd bd : FuncData} (F : Fun K "_law_turned_book" "_law_turned_book" s_law_turned_book f fd) (G_law_digit : FnOk P w K mg base CX0 1 fg gd ["tape", "many"] spDig) (R_law_digit : Ref K mg "_law_digit" fg gd ["tape", "many"])
    (G_law_tape : FnOk P w K mg base CX0 2 ft td ["script", "k"] (spTape K)) (R_law_tape : Ref K mg "_law_tape" ft td ["script", "k"]) (G_law_words : FnOk P w K mg base CX0 2 fw wd ["tape", "many"] spWords) (R_law_words : Ref K mg "_law_words" fw wd ["tape", "many"])
    (G_law_turned_body : FnOk P w K mg base CX0 16 fb bd ["tape", "known", "names"] spTBody) (R_law_turned_body : Ref K mg "_law_turned_body" fb bd ["tape", "known", "names"]) : FnOk P w K mg base CX0 17 f fd ["script", "start", "straight"] (spTBook K) := by
  refine F.ok scLturned_book (fun vs H Q E h => ?_) (fun cdv A outer s H vs Q E hr h => ?_)
  · obtain ⟨sc, ns, start, st, rfl, _⟩ := h
    rfl
  obtain ⟨sc, ns, start, st, rfl, hS, hst0, hst1, q⟩ := h
  refine ⟨_, (pss_cons (ps_set (i := 3) scLturned_book.nd rfl (Or.inl rfl) (pe_call G_law_tape (hr.mono (by omega)) rfl R_law_tape.m R_law_tape.k R_law_tape.b .nil pass0 (pa_cons (pv 0) (pa_cons (pv 1) pa_nil))))
    (pss_cons (ps_set (i := 4) scLturned_book.nd rfl (Or.inl rfl) (pe_call G_law_words (hr.mono (by omega)) rfl R_law_words.m R_law_words.k R_law_words.b .nil pass0 (pa_cons (pv 3) (pa_cons (pe_ix ix_list (pe_lst (pa_cons pe_int (pa_cons pe_int (pa_cons pe_int (pa_cons pe_int (pa_cons pe_int (pa_cons pe_int pa_nil))))))) (pe_call G_law_digit (hr.mono (by omega)) rfl R_law_digit.m R_law_digit.k R_law_digit.b .nil pass0 (pa_cons (pv 3) (pa_cons pe_int pa_nil))) (fun _ _ => rfl)) pa_nil))))
    (pss_cons (ps_set (i := 5) scLturned_book.nd rfl (Or.inl rfl) pe_dnewK)
    (pss_cons (ps_for PassesOwn.never rfl (pi_list (pv 4)) (pg_name (i := 6) scLturned_book.nd rfl (Or.inl rfl)) (pss_one (ps_dput (hu_of hr) (pv 5) (pv 6) (pe_ix ix_list (pe_lst (pa_cons pe_int (pa_cons pe_int (pa_cons pe_int (pa_cons pe_int (pa_cons pe_int (pa_cons pe_int pa_nil))))))) (pe_call G_law_digit (hr.mono (by omega)) rfl R_law_digit.m R_law_digit.k R_law_digit.b .nil pass0 (pa_cons (pv 3) (pa_cons pe_int pa_nil))) (fun _ _ => rfl)) rfl)))
    (pss_cons (ps_set (i := 7) scLturned_book.nd rfl (Or.inl rfl) (pe_ix ix_list (pe_lst (pa_cons pe_int (pa_cons pe_int (pa_cons pe_int (pa_cons pe_int pa_nil))))) (pe_call G_law_digit (hr.mono (by omega)) rfl R_law_digit.m R_law_digit.k R_law_digit.b .nil pass0 (pa_cons (pv 3) (pa_cons pe_int pa_nil))) (fun _ _ => rfl)))
    (pss_cons (ps_set (i := 8) scLturned_book.nd rfl (Or.inl rfl) (pe_lst pa_nil))
    (pss_cons (ps_for PassesOwn.never rfl (pi_range1 rfl T.m_range (pa_cons (pe_callB call_len_seq (by rfl) T.m_len PySem.boot_len (pa_cons (pv 4) pa_nil)) pa_nil)) (pg_name (i := 9) scLturned_book.nd rfl (Or.inl rfl)) (pss_cons (ps_set (i := 10) scLturned_book.nd rfl (Or.inl rfl) (pe_call G_law_tape (hr.mono (by omega)) rfl R_law_tape.m R_law_tape.k R_law_tape.b .nil pass0 (pa_cons (pv 0) (pa_cons (pe_op op_add (pe_op op_add (pv 1) pe_int) (pv 9)) pa_nil))))
    (pss_cons (ps_set (i := 11) scLturned_book.nd rfl (Or.inl rfl) (pe_call G_law_words (hr.mono (by omega)) rfl R_law_words.m R_law_words.k R_law_words.b .nil pass0 (pa_cons (pv 10) (pa_cons pe_int pa_nil))))
    (pss_cons (ps_set (i := 12) scLturned_book.nd rfl (Or.inl rfl) (pe_slice sl_list (pv 11) po_none (po_some (pe_dget (hu_of hr) (pv 5) (pe_ix ix_list (pv 4) (pv 9) (fun _ _ => rfl)) (fun _ _ => rfl)))))
    (pss_cons (ps_set (i := 13) scLturned_book.nd rfl (Or.inl rfl) (pe_disp (pps_cons pe_str (pv 4) (pps_cons pe_str (pv 5) (pps_cons pe_str (pe_slice sl_list (pv 11) (po_some (pe_callB call_len_seq (by rfl) T.m_len PySem.boot_len (pa_cons (pv 12) pa_nil))) po_none) (pps_cons pe_str (pv 7) pps_nil)))) (by rfl) (by rfl) (fun z => by cases z) (by decide)))
    (pss_cons (ps_dput (hu_of hr) (pv 13) pe_str (pe_call G_law_words (hr.mono (by omega)) rfl R_law_words.m R_law_words.k R_law_words.b .nil pass0 (pa_cons (pv 10) (pa_cons pe_int pa_nil))) rfl)
    (pss_cons (ps_dput (hu_of hr) (pv 13) pe_str (pv 2) rfl)
    (pss_one (ps_expr (pe_bm PySem.F.plainAttrs_list PySem.F.slot_list_append PySem.F.type_list_append mt_append (pv 8) (pa_cons (pe_tup (pa_cons (pe_ix ix_list (pv 4) (pv 9) (fun _ _ => rfl)) (pa_cons (pe_callTy call_tuple_of (by rfl) T.m_tuple (by decide +kernel) (pa_cons (pv 12) pa_nil)) (pa_cons (pe_call G_law_turned_body hr rfl R_law_turned_body.m R_law_turned_body.k R_law_turned_body.b .nil pass0 (pa_cons (pv 10) (pa_cons (pv 13) (pa_cons (pv 12) pa_nil)))) pa_nil)))) pa_nil)))))))))))
    (pss_one (ps_ret (pe_callTy call_tuple_of (by rfl) T.m_tuple (by decide +kernel) (pa_cons (pv 8) pa_nil))))))))))), ?_⟩
  refine ⟨_, rfl, _, rfl, sc, ns, start, rfl, hS, hst0, by omega, fun hp z0 hhp => ?_⟩
  have s1 := same_new hhp (.lst [.int z0])
  have t1 : Tp (upd H hp (.lst [.int z0])) hp := ⟨z0, upd_same⟩
  -- errands
  refine ⟨_, rfl, sz (by show 6 ≤ 100000; decide), fun p2 hp2 => ?_⟩
  have s2 := same_new hp2 (.lst [.int 1, .int 2, .int 2, .int 3, .int 4, .int 6])
  have t2 := t1.same s2
  have n2 : p2 ≠ hp := (ne_of_none upd_same hp2).symm
  refine ⟨_, rfl, hp, 6, rfl, t2, by decide, by decide, fun r H3 r0 r1 b3 t3 => ?_⟩
  have hme : ∃ m : Int, atI [V.int 1, .int 2, .int 2, .int 3, .int 4, .int 6] r = some (.int m) ∧ 1 ≤ m ∧ m ≤ 6 := by
    obtain ⟨v, hv, hm⟩ := at_some (xs := [V.int 1, .int 2, .int 2, .int 3, .int 4, .int 6]) r0 r1
    simp only [List.mem_cons, List.not_mem_nil, or_false] at hm
    rcases hm with z | z | z | z | z | z <;> subst z <;> exact ⟨_, hv, by decide, by decide⟩
  obtain ⟨m, hma, hm1, hm6⟩ := hme
  refine ⟨p2, _, _, _, rfl, rfl, SqL.of (b3 _ _ n2 upd_same), hma, ?_⟩
  refine ⟨hp, m, rfl, t3, by omega, by omega, fun el fs H4 b4 t4 hel w4 hfl hnd => ?_⟩
  have sH3 : Same H H3 := fun b o h => b3 _ _ (ne_of_none h hhp) (s2 _ _ (s1 _ _ h))
  have sH4 : Same H H4 := fun b o h => b4 _ _ (ne_of_none h hhp) (sH3 _ _ h)
  -- heads
  intro hd hhd
  have s5 := same_new hhd (.dK [])
  have t5 := t4.same s5
  have w5 := w4.but (but_same s5) t4
  have hhd0 : H hd = none := by
    cases e : H hd with
    | none => rfl
    | some o =>
      rw [sH4 _ _ e] at hhd
      cases hhd
  have nhd : hd ≠ hp := by
    obtain ⟨z, hz⟩ := t4
    exact (ne_of_none hz hhd).symm
  have neh : el ≠ hd := ne_of_none w4.1 hhd
  have hlen6 : fs.length ≤ 6 := by omega
  have sH5 : Same H (upd H4 hd (.dK [])) := sH4.trans s5
  have h5d : upd H4 hd (.dK []) hd = some (.dK []) := upd_same
  generalize upd H4 hd (.dK []) = H5 at s5 t5 w5 sH5 h5d
  refine ⟨_, rfl, el, rfl, ⟨_, SqL.of w5.1⟩, for_list (K := K) (a := el) (xs := fs.map V.str) (fun i σ H' => ∃ o kvs, σ = [some (.ref sc), some (.int start), some (.bl st), some (.ref hp), some (.ref el), some (.ref hd), o, none, none, none, none, none, none, none] ∧
    But2 hp hd H5 H' ∧ Tp H' hp ∧ H' hd = some (.dK kvs) ∧ kvs.length ≤ i ∧ ∀ f ∈ fs.take i, ∃ n : Int, valV kvs (Sum.inr f) = some (.int n) ∧ 0 ≤ n ∧ n ≤ 4) ?_ ?_ ?_ ?_⟩
  · refine ⟨none, [], rfl, But2.refl _ _ _, t5, h5d, Nat.le_refl _, fun f hf => ?_⟩
    rw [List.take_zero] at hf
    cases hf
  · rintro i σ H' _ ⟨o, kvs, rfl, b6, _⟩
    exact SqL.of (b6 _ _ (wls_tp w5.1 t5) neh w5.1)
  · rintro i x σ H6 hx ⟨o, kvs, rfl, b6, t6, h6, hkl, hkv⟩
    rw [List.getElem?_map] at hx
    obtain ⟨fn, hfn, rfl⟩ : ∃ fn, fs[i]? = some fn ∧ V.str fn = x := by
      cases e : fs[i]? with
      | none =>
        rw [e] at hx
        cases hx
      | some fn =>
        rw [e] at hx
        exact ⟨fn, rfl, Option.some.inj hx⟩
    obtain ⟨hi, hi2⟩ := List.getElem?_eq_some_iff.mp hfn
    refine ⟨sz (by show 6 ≤ 100000; decide), fun p7 hp7 => ?_⟩
    have s7 := same_new hp7 (.lst [.int 1, .int 2, .int 1, .int 0, .int 3, .int 4])
    have n7 : p7 ≠ hp := by
      obtain ⟨z, hz⟩ := t6
      exact (ne_of_none hz hp7).symm
    refine ⟨_, rfl, hp, 6, rfl, t6.same s7, by decide, by decide, fun r2 H8 r3 r4 b8 t8 => ?_⟩
    have hne : ∃ m : Int, atI [V.int 1, .int 2, .int 1, .int 0, .int 3, .int 4] r2 = some (.int m) ∧ 0 ≤ m ∧ m ≤ 4 := by
      obtain ⟨v, hv, hm⟩ := at_some (xs := [V.int 1, .int 2, .int 1, .int 0, .int 3, .int 4]) r3 r4
      simp only [List.mem_cons, List.not_mem_nil, or_false] at hm
      rcases hm with z | z | z | z | z | z <;> subst z <;> exact ⟨_, hv, by decide, by decide⟩
    obtain ⟨m2, hma2, hm20, hm24⟩ := hne
    have h8 : H8 hd = some (.dK kvs) := b8 _ _ nhd (s7 _ _ h6)
    refine ⟨p7, _, _, _, rfl, rfl, SqL.of (b8 _ _ n7 upd_same), hma2, _, rfl, _, rfl, hd, _, rfl, DPut.k (k := Sum.inr fn) h8 (Nat.lt_of_le_of_lt (m := 1000) (by omega) (by decide)), ?_⟩
    refine ⟨_, _, rfl, fun b o n1 n2 hb => ?_, ?_, upd_same, ?_, ?_⟩
    · rw [upd_ne n2]
      exact b8 _ _ n1 (s7 _ _ (b6 _ _ n1 n2 hb))
    · obtain ⟨z, hz⟩ := t8
      exact ⟨z, by rw [upd_ne nhd.symm]; exact hz⟩
    · have := length_putK kvs (Sum.inr fn) (V.int m2)
      omega
    · intro f' hf'
      rw [List.take_succ_eq_append_getElem hi, hi2] at hf'
      by_cases e : f' = fn
      · subst e
        exact ⟨m2, by rw [valV_put, if_pos rfl], hm20, hm24⟩
      · rcases List.mem_append.mp hf' with z | z
        · obtain ⟨n3, q1, q2, q3⟩ := hkv f' z
          refine ⟨n3, ?_, q2, q3⟩
          rw [valV_put, if_neg (fun y => e (Sum.inr.inj y))]
          exact q1
        · exact absurd (List.mem_singleton.mp z) e
  rintro σ H6 ⟨o5, kvs, rfl, b6, t6, h6, _, hkv⟩
  rw [List.length_map, List.take_length] at hkv
  have w6 : Wls H6 el fs := ⟨b6 _ _ (wls_tp w5.1 t5) neh w5.1, w5.2⟩
  have sH6 : Same H H6 := fun b o hb => b6 _ _ (ne_of_none hb hhp) (ne_of_none hb hhd0) (sH5 _ _ hb)
  -- room
  refine ⟨sz (by show 4 ≤ 100000; decide), fun p7 hp7 => ?_⟩
  have s7 := same_new hp7 (.lst [.int 3, .int 5, .int 7, .int 9])
  have n7 : p7 ≠ hp := by
    obtain ⟨z, hz⟩ := t6
    exact (ne_of_none hz hp7).symm
  refine ⟨_, rfl, hp, 4, rfl, t6.same s7, by decide, by decide, fun r2 H8 r3 r4 b8 t8 => ?_⟩
  have hre : ∃ m : Int, atI [V.int 3, .int 5, .int 7, .int 9] r2 = some (.int m) ∧ 3 ≤ m ∧ m ≤ 9 := by
    obtain ⟨v, hv, hm⟩ := at_some (xs := [V.int 3, .int 5, .int 7, .int 9]) r3 r4
    simp only [List.mem_cons, List.not_mem_nil, or_false] at hm
    rcases hm with z | z | z | z <;> subst z <;> exact ⟨_, hv, by decide, by decide⟩
  obtain ⟨room, hra, hr8, hr40⟩ := hre
  refine ⟨p7, _, _, _, rfl, rfl, SqL.of (b8 _ _ n7 upd_same), hra, ?_⟩
  have sH8 : Same H H8 := fun b o hb => b8 _ _ (ne_of_none hb hhp) (s7 _ _ (sH6 _ _ hb))
  have w8 : Wls H8 el fs := ⟨b8 _ _ (wls_tp w6.1 t6) (s7 _ _ w6.1), w6.2⟩
  have h8 : H8 hd = some (.dK kvs) := b8 _ _ nhd (s7 _ _ h6)
  have hS8 : SqL K H8 sc (ns.map V.int) := sH8.seq hS
  clear h6 w6 sH6 s7 b8 t8 hp7 b6 t6
  -- found
  refine ⟨sz (by show 0 ≤ 100000; decide), fun fl hflN => ?_⟩
  have s9 := same_new hflN (.lst [])
  refine ⟨_, rfl, el, _, rfl, .inl (SqL.of (s9 _ _ w8.1)), _, rfl, by omega, by rw [List.length_map]; omega, ?_⟩
  have hnl : (((fs.map V.str).length : Nat) : Int).toNat = fs.length := by
    rw [Int.toNat_natCast, List.length_map]
  refine for_range (lo := 0) (n := (((fs.map V.str).length : Nat) : Int).toNat) (fun i σ H' => ∃ o8 o9 o10 o11 o12 vs es, σ = [some (.ref sc), some (.int start), some (.bl st), some (.ref hp), some (.ref el), some (.ref hd), o5, some (.int room), some (.ref fl), o8, o9, o10, o11, o12] ∧
    Same H8 H' ∧ H' fl = some (.lst vs) ∧ All2 (TErV H') es vs ∧ es.length = i ∧ es.map (·.1) = fs.take i ∧ ∀ e ∈ es, GdTE (hFof fs kvs) e) ?_ ?_ ?_
  · exact ⟨_, _, _, _, _, [], [], rfl, s9, upd_same, trivial, rfl, rfl, fun _ z => nomatch z⟩
  · rintro i σ H' hi ⟨o8, o9, o10, o11, o12, vs, es, rfl, sA, hfA, kA, hel2, hnm, hgd⟩
    rw [hnl] at hi
    have hfi : fs[i]? = some fs[i] := List.getElem?_eq_getElem hi
    have hfm := List.getElem_mem hi
    generalize fs[i] = fn at hfi hfm
    have ei : (0 : Int) + (i : Nat) = ((i : Nat) : Int) := by omega
    have hat : atI (fs.map V.str) ((0 : Int) + (i : Nat)) = some (V.str fn) := by
      rw [ei]
      exact atI_nat (by rw [List.getElem?_map, hfi]; rfl)
    obtain ⟨nn, hnn, hn0, hn4⟩ := hkv fn hfm
    -- tape
    refine ⟨_, rfl, _, rfl, _, _, rfl, rfl, _, rfl, _, _, rfl, rfl, sc, ns, _, rfl, sA.seq hS8, by omega, by omega, fun tp z htp => ?_⟩
    have sB := same_new htp (.lst [.int z])
    have tB : Tp (upd H' tp (.lst [.int z])) tp := ⟨z, upd_same⟩
    refine ⟨_, rfl, tp, 16, rfl, tB, by decide, by decide, fun wp ws HC bC tC hwp wC hwl hwnd => ?_⟩
    have hwl16 : ws.length = 16 := by omega
    have sC : Same H' HC := fun b o hb => bC _ _ (ne_of_none hb htp) (sB _ _ hb)
    have wCe : Wls HC el fs := ⟨sC _ _ (sA _ _ w8.1), w8.2⟩
    have hCd : HC hd = some (.dK kvs) := sC _ _ (sA _ _ h8)
    -- names
    refine ⟨_, rfl, _, rfl, _, rfl, _, rfl, el, _, _, _, rfl, rfl, SqL.of wCe.1, hat, hd, _, rfl, get_of hCd hnn, _, rfl, wp, _, rfl, SqL.of wC.1, fun np hnp => ?_⟩
    have eN : cutV (ws.map V.str) none (some nn) = (ws.take nn.toNat).map V.str := by
      rw [cut_to hn0 (by rw [List.length_map]; omega), List.map_take]
    rw [eN]
    have sD := same_new hnp (.lst ((ws.take nn.toNat).map V.str))
    have hD : upd HC np (.lst ((ws.take nn.toNat).map V.str)) np = some (.lst ((ws.take nn.toNat).map V.str)) := upd_same
    have tD := tC.same sD
    generalize upd HC np (.lst ((ws.take nn.toNat).map V.str)) = HD at sD hD tD
    -- known
    intro kd hkd
    have sE := same_new hkd (.dK [])
    refine ⟨_, rfl, _, rfl, _, rfl, _, rfl, np, _, rfl, .inl (SqL.of (sE _ _ hD)), _, rfl, wp, _, rfl, SqL.of (sE _ _ (sD _ _ wC.1)), fun wl hwlN => ?_⟩
    have eW : cutV (ws.map V.str) (some ((((ws.take nn.toNat).map V.str).length : Nat) : Int)) none = (ws.drop nn.toNat).map V.str := by
      have e1 : ((ws.take nn.toNat).map V.str).length = nn.toNat := by
        rw [List.length_map, List.length_take]
        omega
      rw [e1, cut_from (by omega) (by rw [List.length_map]; omega), List.map_drop, Int.toNat_natCast]
    rw [eW]
    have sF := same_new hwlN (.lst ((ws.drop nn.toNat).map V.str))
    have hkF : upd (upd HD kd (.dK [])) wl (.lst ((ws.drop nn.toNat).map V.str)) kd = some (.dK []) := sF _ _ upd_same
    have hwF : upd (upd HD kd (.dK [])) wl (.lst ((ws.drop nn.toNat).map V.str)) wl = some (.lst ((ws.drop nn.toNat).map V.str)) := upd_same
    have nwk : wl ≠ kd := (ne_of_none upd_same hwlN).symm
    have nwn : np ≠ wl := ne_of_none (sE _ _ hD) hwlN
    have sDF := sE.trans sF
    have nwe : el ≠ wl := ne_of_none (sE _ _ (sD _ _ wCe.1)) hwlN
    have hwl0 : H' wl = none := by
      cases e : H' wl with
      | none => rfl
      | some o =>
        rw [sE _ _ (sD _ _ (sC _ _ e))] at hwlN
        cases hwlN
    generalize upd (upd HD kd (.dK [])) wl (.lst ((ws.drop nn.toNat).map V.str)) = HF at sDF hkF hwF
    refine ⟨_, rfl, hkF, knT4 el hd wl room, rfl, by show 4 ≤ 15; decide, ?_⟩
    rw [merge_kn4]
    have sG4 : Same HD (upd HF kd (.dK (knT4 el hd wl room))) := fun b o hb => by
      have nb : b ≠ kd := ne_of_none hb hkd
      rw [upd_ne nb]
      exact sDF _ _ hb
    have hkG4 : upd HF kd (.dK (knT4 el hd wl room)) kd = some (.dK (knT4 el hd wl room)) := upd_same
    have hwG4 : upd HF kd (.dK (knT4 el hd wl room)) wl = some (.lst ((ws.drop nn.toNat).map V.str)) := by
      rw [upd_ne nwk]
      exact hwF
    generalize upd HF kd (.dK (knT4 el hd wl room)) = HG4 at sG4 hkG4 hwG4 ⊢
    -- posts, straight
    have tG4 : Tp HG4 tp := (tC.same sD).same sG4
    have nkt : kd ≠ tp := by
      obtain ⟨z, hz⟩ := tC.same sD
      exact (ne_of_none hz hkd).symm
    have big4 : (knT4 el hd wl room).length < sizeLine := Nat.lt_of_lt_of_le (by show 4 < 1000; decide : _ < 1000) (by decide)
    have big5 : ∀ pl : Addr, (putK (knT4 el hd wl room) kgP (.ref pl)).length < sizeLine := fun pl => Nat.lt_of_lt_of_le (by show 5 < 1000; decide : _ < 1000) (by decide)
    refine ⟨_, rfl, tp, 16, rfl, tG4, by decide, by decide, fun pl js HP bP tP hplN wPl hjl hjnd => ?_⟩
    have hjl16 : js.length = 16 := by omega
    have hkP := bP _ _ nkt hkG4
    have npk : pl ≠ kd := fun z => by
      rw [z] at hplN
      rw [hkG4] at hplN
      cases hplN
    refine ⟨_, rfl, kd, _, rfl, DPut.k (k := kgP) hkP big4, ?_⟩
    refine ⟨_, rfl, _, rfl, kd, _, rfl, DPut.k (k := kgS) upd_same (big5 pl), ?_⟩
    have hkG : (upd (upd HP kd (.dK (putK (knT4 el hd wl room) kgP (.ref pl)))) kd (.dK (putK (putK (knT4 el hd wl room) kgP (.ref pl)) kgS (.bl st)))) kd = some (.dK (knT el hd wl pl room st)) := upd_same
    have oth : ∀ b o, b ≠ kd → HP b = some o → (upd (upd HP kd (.dK (putK (knT4 el hd wl room) kgP (.ref pl)))) kd (.dK (putK (putK (knT4 el hd wl room) kgP (.ref pl)) kgS (.bl st)))) b = some o := fun b o n h => by
      rw [upd_ne n, upd_ne n]
      exact h
    generalize (upd (upd HP kd (.dK (putK (knT4 el hd wl room) kgP (.ref pl)))) kd (.dK (putK (putK (knT4 el hd wl room) kgP (.ref pl)) kgS (.bl st)))) = HG at hkG oth ⊢
    have bDG : ∀ b o, b ≠ tp → HD b = some o → HG b = some o := fun b o nb hb => oth b o (ne_of_none hb hkd) (bP b o nb (sG4 b o hb))
    have tG : Tp HG tp := by
      obtain ⟨z, hz⟩ := tP
      exact ⟨z, oth _ _ nkt.symm hz⟩
    have nwt : wl ≠ tp := wls_tp hwG4 tG4
    have hwG : HG wl = some (.lst ((ws.drop nn.toNat).map V.str)) := oth _ _ nwk (bP _ _ nwt hwG4)
    have nwp : wl ≠ pl := ne_of_none hwG4 hplN
    have wPG : Wls HG pl js := ⟨oth _ _ npk wPl.1, wPl.2⟩
    have net : el ≠ tp := wls_tp wCe.1 tC
    have ndt : hd ≠ tp := by
      obtain ⟨z, hz⟩ := tC
      exact ne_of hCd hz (fun y => by cases y)
    have nep : el ≠ pl := ne_of_none (sG4 _ _ (sD _ _ wCe.1)) hplN
    have nnp : np ≠ pl := ne_of_none (sG4 _ _ hD) hplN
    have nnt : np ≠ tp := wls_tp hD (tC.same sD)
    have hpl0 : H' pl = none := by
      cases e : H' pl with
      | none => rfl
      | some o =>
        rw [sG4 _ _ (sD _ _ (sC _ _ e))] at hplN
        cases hplN
    have gG : GT HG tp kd wl pl (hFof fs kvs) (ws.drop nn.toNat) js := ⟨tG, ⟨hwG, fun x hx => wC.2 x (List.mem_of_mem_drop hx)⟩, wPG, by rw [List.length_drop]; omega, by omega, nwp,
      el, hd, fs, kvs, room, st, hkG, by omega, hr40, nwe, nep, ⟨bDG _ _ net (sD _ _ wCe.1), wCe.2⟩, by omega, by omega, bDG _ _ ndt (sD _ _ hCd), fun f hf => let ⟨n, e1, e2, e3⟩ := hkv f hf; ⟨n, e1, e2, e3, hFof_at hf e1⟩⟩
    have sXG : Same H' HG := fun b o hb => bDG b o (ne_of_none hb htp) (sD _ _ (sC b o hb))
    have wG : Wls HG np (ws.take nn.toNat) := ⟨bDG _ _ nnt hD, fun x hx => wC.2 x (List.mem_of_mem_take hx)⟩
    -- the errand
    refine ⟨_, rfl, .inl ⟨rfl, _, SqL.of (sXG _ _ hfA)⟩, _, rfl, _, rfl, el, _, _, _, rfl, rfl, SqL.of (bDG _ _ net (sD _ _ wCe.1)), hat, _, rfl, np, _, rfl, .inl ⟨SqL.of wG.1, fun tl htl => ?_⟩⟩
    have sH := same_new htl (.tup ((ws.take nn.toNat).map V.str))
    refine ⟨_, rfl, _, rfl, _, rfl, tp, kd, wl, pl, np, hFof fs kvs, ws.drop nn.toNat, js, ws.take nn.toNat, rfl, gG.same sH, wG.but (but_same sH) gG.t, nwn, nnp, by rw [List.length_drop]; omega, by rw [List.length_take, List.length_drop]; omega, by omega, fun a t HI wsI jsI ls ms O => ?_⟩
    refine ⟨sz (by show 3 ≤ 100000; decide), fun ep hep => ?_⟩
    have sJ := same_new hep (.tup [.str fn, .ref tl, .ref a])
    have tkI : TK (upd HG tl (.tup ((ws.take nn.toNat).map V.str))) HI := (gG.same sH).tk O.b
    have sX : Same H' HI := fun b o hb => O.b _ _ (ne_of_none hb htp) (ne_of_none hb hwl0) (ne_of_none hb hpl0) (sH _ _ (sXG _ _ hb))
    have sXJ := sX.trans sJ
    have hfJ := sXJ _ _ hfA
    have hvl := kA.len
    refine ⟨fl, _, _, rfl, rfl, hfJ, Nat.lt_of_le_of_lt (m := 1000) (by omega) (by decide), ?_⟩
    have tkJ := (tk_same sXJ).trans (tk_put (o := .lst (vs ++ [.ref ep])) hfJ)
    have tkP := tk_put (o := .lst (vs ++ [.ref ep])) hfJ
    refine ⟨_, _, _, _, _, vs ++ [.ref ep], es ++ [(fn, ws.take nn.toNat, t)], rfl, same_mut (sA.trans sXJ) hflN, upd_same, ?_, ?_, ?_, ?_⟩
    · refine (kA.imp fun _ _ z => z.tk tkJ).app ⟨⟨ep, tl, a, rfl, tkP _ _ upd_same, tkP _ _ (sJ _ _ (tkI _ _ upd_same)), (O.at_.tk (tk_same sJ)).tk tkP⟩, trivial⟩
    · rw [List.length_append, hel2]
      rfl
    · rw [List.map_append, hnm, List.take_succ_eq_append_getElem hi]
      have e : fs[i] = fn := by
        rw [List.getElem?_eq_getElem hi] at hfi
        exact Option.some.inj hfi
      rw [e]
      rfl
    · intro e he
      rcases List.mem_append.mp he with z | z
      · exact hgd e z
      · rw [List.mem_singleton.mp z]
        have etk : (ws.take nn.toNat).length = nn.toNat := by
          rw [List.length_take]
          omega
        refine ⟨w8.2 fn hfm, fun x hx => wC.2 x (List.mem_of_mem_take hx), by show (ws.take nn.toNat).length ≤ 4; omega, O.ok, O.cn, ?_, ?_, ?_⟩
        · show hFof fs kvs fn = some (ws.take nn.toNat).length
          rw [etk]
          exact hFof_at hfm hnn
        · show (ws.take nn.toNat ++ wP t).Nodup
          have e9 : ws = ws.take nn.toNat ++ (wsI ++ ls.reverse) := by rw [← O.e1, List.take_append_drop]
          rw [e9] at hwnd
          rw [List.nodup_append] at hwnd ⊢
          obtain ⟨n1, n2, n3⟩ := hwnd
          have n4 := (List.nodup_append.mp n2).2.1
          have n5 : ls.Nodup := (List.reverse_perm ls).nodup_iff.mp n4
          exact ⟨n1, n5.sublist O.s1, fun a ha b hb => n3 a ha b (List.mem_append_right _ (List.mem_reverse.mpr (O.s1.subset hb)))⟩
        · show (jP t).Nodup
          have n2 := hjnd
          rw [O.e2] at n2
          have n4 := (List.nodup_append.mp n2).2.1
          have n5 : ms.Nodup := (List.reverse_perm ms).nodup_iff.mp n4
          exact n5.sublist O.s2
  · rintro σ H' ⟨o8, o9, o10, o11, o12, vs, es, rfl, sA, hfA, kA, hel2, hnm, hgd⟩
    rw [hnl] at hel2 hnm
    rw [List.take_length] at hnm
    refine ⟨_, rfl, fl, _, rfl, .inl ⟨SqL.of hfA, fun p hp9 => ?_⟩⟩
    have sK := same_new hp9 (.tup vs)
    refine q p es vs _ ((sH8.trans sA).trans sK) ⟨upd_same, kA.imp fun _ _ z => z.tk (tk_same sK)⟩ ⟨by omega, by rw [hnm]; exact hnd, _, hgd, fun f n hf => by rw [hnm]; exact hFof_in hf⟩
end
end KB

namespace KB
open PySem L2 HT
theorem layAll : ∀ {ds : List PyData}, (∀ d ∈ ds, d.canLay0 = true) → PySem.PyData.canLayAll0 ds = true
  | [], _ => rfl
  | d :: r, h => by
    show (d.canLay0 && PySem.PyData.canLayAll0 r) = true
    rw [h d List.mem_cons_self, layAll fun x hx => h x (List.mem_cons_of_mem _ hx)]
    rfl
theorem depthAll_le {m : Nat} : ∀ {ds : List PyData}, (∀ d ∈ ds, d.depth ≤ m) → PySem.PyData.depthAll ds ≤ m
  | [], _ => Nat.zero_le _
  | d :: r, h => by
    show max d.depth (PySem.PyData.depthAll r) ≤ m
    have h1 := h d List.mem_cons_self
    have h2 := depthAll_le fun x hx => h x (List.mem_cons_of_mem _ hx)
    omega
theorem depth_tup {m : Nat} {ds : List PyData} (h : ∀ d ∈ ds, d.depth ≤ m) : (PyData.tuple ds).depth ≤ m + 1 := by
  show PySem.PyData.depthAll ds + 1 ≤ m + 1
  have := depthAll_le h
  omega
theorem depth_lst {m : Nat} {ds : List PyData} (h : ∀ d ∈ ds, d.depth ≤ m) : (PyData.list ds).depth ≤ m + 1 := by
  show PySem.PyData.depthAll ds + 1 ≤ m + 1
  have := depthAll_le h
  omega
theorem lay_lit {x : Str} (h : PySem.PyData.strOk x = true) : (PyData.str x).canLay0 = true := h
theorem lay_str {x : Str} (h : isW x = true) : (PyData.str x).canLay0 = true := isW_ok h
/-! ### terms as data -/
def pdH : Hd → List PyData → PyData
  | .num z, _ => .tuple [.str "number", .int z]
  | .nam x, _ => .tuple [.str "name", .str x]
  | .plus, ds => .tuple (.str "plus" :: ds)
  | .less, ds => .tuple (.str "less" :: ds)
  | .tell, ds => .tuple (.str "tell" :: ds)
  | .lett x, ds => .tuple (.str "let" :: .str x :: ds)
  | .iff, ds => .tuple (.str "if" :: ds)
  | .ask f, ds => .tuple [.str "ask", .str f, .tuple ds]
def pd : Tm → PyData
  | .mk h _ k => pdH h (List.ofFn fun i => pd (k i))
theorem dp_fn {K : PySem.W.Frag} {H : Hp} : ∀ {n : Nat} {ys : _root_.Fin n → Addr} {ds : _root_.Fin n → PyData}, (∀ i, Dp K H (.ref (ys i)) (ds i)) → DpAll K H (Rfs ys) (List.ofFn ds)
  | 0, _, _, _ => .nil
  | n + 1, ys, ds, h => by
    unfold Rfs
    rw [List.ofFn_succ, List.ofFn_succ]
    exact .cons (h 0) (dp_fn (ys := fun i => ys i.succ) (ds := fun i => ds i.succ) fun i => h i.succ)
theorem dp_at {K : PySem.W.Frag} {H : Hp} : ∀ {t : Tm} {a : Addr}, At H t a → Dp K H (.ref a) (pd t) := by
  intro t
  induction t with
  | mk h n k ih =>
    rintro a ⟨ys, l, r⟩
    have d : DpAll K H (Rfs ys) (List.ofFn fun i => pd (k i)) := dp_fn fun i => ih i (r i)
    show Dp K H (.ref a) (pdH h (List.ofFn fun i => pd (k i)))
    generalize (List.ofFn fun i => pd (k i)) = ds at d
    cases h with
    | num z => exact .tup (SqT.of l.2) (.cons (.str _) (.cons (.int _) .nil))
    | nam z => exact .tup (SqT.of l.2) (.cons (.str _) (.cons (.str _) .nil))
    | lett x => exact .tup (SqT.of l.2) (.cons (.str _) (.cons (.str _) d))
    | ask f =>
      obtain ⟨_, p, h1, h2⟩ := l
      exact .tup (SqT.of h1) (.cons (.str _) (.cons (.str _) (.cons (.tup (SqT.of h2) d) .nil)))
    | _ => exact .tup (SqT.of l.2) (.cons (.str _) d)
theorem lay_pdH {h : Hd} {ds : List PyData} (o : okH h) (l : ∀ d ∈ ds, d.canLay0 = true) : (pdH h ds).canLay0 = true := by
  have la := layAll l
  cases h with
  | num z =>
    refine layAll fun d hd => ?_
    rcases List.mem_cons.mp hd with y | y
    · rw [y]
      exact lay_lit (by decide +kernel)
    · rw [List.mem_singleton.mp y]
      rfl
  | nam x =>
    refine layAll fun d hd => ?_
    rcases List.mem_cons.mp hd with z | z
    · rw [z]
      exact lay_lit (by decide +kernel)
    · rw [List.mem_singleton.mp z]
      exact lay_str o
  | lett x =>
    refine layAll fun d hd => ?_
    rcases List.mem_cons.mp hd with z | z
    · rw [z]
      exact lay_lit (by decide +kernel)
    · rcases List.mem_cons.mp z with z | z
      · rw [z]
        exact lay_str o
      · exact l d z
  | ask f =>
    refine layAll fun d hd => ?_
    rcases List.mem_cons.mp hd with z | z
    · rw [z]
      exact lay_lit (by decide +kernel)
    · rcases List.mem_cons.mp z with z | z
      · rw [z]
        exact lay_str o
      · rw [List.mem_singleton.mp z]
        exact la
  | _ =>
    refine layAll fun d hd => ?_
    rcases List.mem_cons.mp hd with z | z
    · rw [z]
      exact lay_lit (by decide +kernel)
    · exact l d z
theorem lay_pd : ∀ {t : Tm}, okT t → (pd t).canLay0 = true := by
  intro t
  induction t with
  | mk h n k ih =>
    rintro ⟨o, r⟩
    refine lay_pdH o fun d hd => ?_
    obtain ⟨i, rfl⟩ := List.mem_ofFn.mp hd
    exact ih i (r i)
theorem depth_pdH {h : Hd} {m : Nat} {ds : List PyData} (l : ∀ d ∈ ds, d.depth ≤ m) : (pdH h ds).depth ≤ m + 2 := by
  cases h with
  | num z => exact Nat.le_trans (depth_tup (m := 0) fun d hd => by
      rcases List.mem_cons.mp hd with y | y
      · rw [y]
        exact Nat.le_refl 0
      · rw [List.mem_singleton.mp y]
        exact Nat.le_refl 0) (by omega)
  | nam x => exact Nat.le_trans (depth_tup (m := 0) fun d hd => by
      rcases List.mem_cons.mp hd with z | z
      · rw [z]
        exact Nat.le_refl 0
      · rw [List.mem_singleton.mp z]
        exact Nat.le_refl 0) (by omega)
  | lett x =>
    refine Nat.le_trans (depth_tup (m := m) fun d hd => ?_) (by omega)
    rcases List.mem_cons.mp hd with z | z
    · rw [z]
      exact Nat.zero_le _
    · rcases List.mem_cons.mp z with z | z
      · rw [z]
        exact Nat.zero_le _
      · exact l d z
  | ask f =>
    refine depth_tup (m := m + 1) fun d hd => ?_
    rcases List.mem_cons.mp hd with z | z
    · rw [z]
      exact Nat.zero_le _
    · rcases List.mem_cons.mp z with z | z
      · rw [z]
        exact Nat.zero_le _
      · rw [List.mem_singleton.mp z]
        exact depth_tup l
  | _ =>
    refine Nat.le_trans (depth_tup (m := m) fun d hd => ?_) (by omega)
    rcases List.mem_cons.mp hd with z | z
    · rw [z]
      exact Nat.zero_le _
    · exact l d z
theorem depth_pd : ∀ {n : Nat} {t : Tm}, HtLe n t → (pd t).depth ≤ 2 * n
  | 0, _, h => h.elim
  | n + 1, .mk h m k, r => by
    refine Nat.le_trans (depth_pdH (h := h) (m := 2 * n) fun d hd => ?_) (by omega)
    obtain ⟨i, rfl⟩ := List.mem_ofFn.mp hd
    exact depth_pd (r i)
theorem eqv_self {d : PyData} (h : SeqAt.shaped d = true) : PyData.eqv d d = true := SeqAt.eqv_refl d (SeqAt.canLay_of_shaped h)
theorem dp_ints {K : PySem.W.Frag} {H : Hp} : ∀ ks : List Int, DpAll K H (ks.map V.int) (ks.map PyData.int)
  | [] => .nil
  | k :: r => .cons (.int k) (dp_ints r)
/-! ### parts of turned books as data -/
def pdP : Pt → PyData
  | .give j t => .tuple [.str "give", .str j, pd t]
  | .ask f ts j => .tuple [.str "ask", .str f, .tuple (ts.map pd), .str j]
  | .tell x t p => .tuple [.str "tell", .str x, pd t, pdP p]
  | .lett x t p => .tuple [.str "let", .str x, pd t, pdP p]
  | .iff t p q => .tuple [.str "if", pd t, pdP p, pdP q]
  | .post j x p q => .tuple [.str "post", .str j, .str x, pdP p, pdP q]
theorem dp_refs {K : PySem.W.Frag} {H : Hp} : ∀ {ts : List Tm} {xs : List V}, All2 (RefV H) ts xs → DpAll K H xs (ts.map pd)
  | [], [], _ => .nil
  | _ :: _, _ :: _, ⟨⟨b, e, h⟩, r⟩ => by
    rw [e]
    exact .cons (dp_at h) (dp_refs r)
  | [], _ :: _, h => h.elim
  | _ :: _, [], h => h.elim
theorem dp_pat {K : PySem.W.Frag} {H : Hp} : ∀ {p : Pt} {a : Addr}, PAt H p a → Dp K H (.ref a) (pdP p)
  | .give j t, a, ⟨b, h1, h2⟩ => .tup (SqT.of h1) (.cons (.str _) (.cons (.str _) (.cons (dp_at h2) .nil)))
  | .ask f ts j, a, ⟨q, vs, h1, h2, h3⟩ => .tup (SqT.of h1) (.cons (.str _) (.cons (.str _) (.cons (.tup (SqT.of h2) (dp_refs h3)) (.cons (.str _) .nil))))
  | .tell x t p, a, ⟨b, c, h1, h2, h3⟩ => .tup (SqT.of h1) (.cons (.str _) (.cons (.str _) (.cons (dp_at h2) (.cons (dp_pat h3) .nil))))
  | .lett x t p, a, ⟨b, c, h1, h2, h3⟩ => .tup (SqT.of h1) (.cons (.str _) (.cons (.str _) (.cons (dp_at h2) (.cons (dp_pat h3) .nil))))
  | .iff t p q, a, ⟨b, c, d, h1, h2, h3, h4⟩ => .tup (SqT.of h1) (.cons (.str _) (.cons (dp_at h2) (.cons (dp_pat h3) (.cons (dp_pat h4) .nil))))
  | .post j x p q, a, ⟨c, d, h1, h2, h3⟩ => .tup (SqT.of h1) (.cons (.str _) (.cons (.str _) (.cons (.str _) (.cons (dp_pat h2) (.cons (dp_pat h3) .nil)))))
/-- a simple term, good -/
structure STm (t : Tm) : Prop where
  ok : okT t
  si : simple t = true
  cn : cnt t ≤ 3
  ht : HtLe 2 t
theorem SmT.st {hd : Str → Option Nat} {xs : List Str} {t : Tm} (h : SmT hd xs t) : STm t := ⟨h.ok, h.si, h.cn, h.ht⟩
/-- a part whose words are words -/
def kP : Pt → Prop
  | .give j t => PySem.PyData.strOk j = true ∧ STm t
  | .ask f ts j => PySem.PyData.strOk j = true ∧ isW f = true ∧ ts.length ≤ 4 ∧ ∀ t ∈ ts, STm t
  | .tell x t p => isW x = true ∧ STm t ∧ kP p
  | .lett x t p => isW x = true ∧ STm t ∧ kP p
  | .iff t p q => STm t ∧ kP p ∧ kP q
  | .post j x p q => isW j = true ∧ isW x = true ∧ kP p ∧ kP q
theorem okP_kP {hd : Str → Option Nat} : ∀ {p : Pt} {xs hs : List Str}, (∀ j ∈ hs, PySem.PyData.strOk j = true) → okP hd p xs hs → kP p
  | .give j t, _, _, hh, h => ⟨hh _ h.1, h.2.st⟩
  | .ask f ts j, _, _, hh, h => ⟨hh _ h.1, h.2.1, h.2.2.2.1, fun t ht => (h.2.2.2.2 t ht).st⟩
  | .tell x t p, _, _, hh, h => ⟨h.1, h.2.1.st, okP_kP hh h.2.2⟩
  | .lett x t p, _, _, hh, h => ⟨h.1, h.2.1.st, okP_kP hh h.2.2⟩
  | .iff t p q, _, _, hh, h => ⟨h.1.st, okP_kP hh h.2.1, okP_kP hh h.2.2⟩
  | .post j x p q, _, _, hh, h => ⟨h.1, h.2.1, okP_kP hh h.2.2.1, okP_kP (fun k hk => by
      rcases List.mem_append.mp hk with z | z
      · exact hh k z
      · rw [List.mem_singleton.mp z]
        exact isW_ok h.1) h.2.2.2⟩
theorem STm.lay {t : Tm} (h : STm t) : (pd t).canLay0 = true := lay_pd h.ok
theorem STm.dep {t : Tm} (h : STm t) : (pd t).depth ≤ 4 := depth_pd h.ht
theorem lay_cons {d : PyData} {ds : List PyData} (h1 : d.canLay0 = true) (h2 : PySem.PyData.canLayAll0 ds = true) : PySem.PyData.canLayAll0 (d :: ds) = true := Bool.and_eq_true_iff.mpr ⟨h1, h2⟩
theorem lay_pdP : ∀ {p : Pt}, kP p → (pdP p).canLay0 = true
  | .give j t, h => lay_cons (lay_lit (by decide +kernel)) (lay_cons (lay_lit h.1) (lay_cons h.2.lay rfl))
  | .ask f ts j, h => lay_cons (lay_lit (by decide +kernel)) (lay_cons (lay_str h.2.1) (lay_cons (layAll (ds := ts.map pd) fun d hd => by
      obtain ⟨t, ht, rfl⟩ := List.mem_map.mp hd
      exact (h.2.2.2 t ht).lay) (lay_cons (lay_lit h.1) rfl)))
  | .tell x t p, h => lay_cons (lay_lit (by decide +kernel)) (lay_cons (lay_str h.1) (lay_cons h.2.1.lay (lay_cons (lay_pdP h.2.2) rfl)))
  | .lett x t p, h => lay_cons (lay_lit (by decide +kernel)) (lay_cons (lay_str h.1) (lay_cons h.2.1.lay (lay_cons (lay_pdP h.2.2) rfl)))
  | .iff t p q, h => lay_cons (lay_lit (by decide +kernel)) (lay_cons h.1.lay (lay_cons (lay_pdP h.2.1) (lay_cons (lay_pdP h.2.2) rfl)))
  | .post j x p q, h => lay_cons (lay_lit (by decide +kernel)) (lay_cons (lay_str h.1) (lay_cons (lay_str h.2.1) (lay_cons (lay_pdP h.2.2.1) (lay_cons (lay_pdP h.2.2.2) rfl))))
theorem dep_str {m : Nat} {z : Str} : (PyData.str z).depth ≤ m := Nat.zero_le m
theorem depth_pdP : ∀ {p : Pt}, kP p → (pdP p).depth ≤ pcnt p + 5
  | .give j t, h => depth_tup (m := 5) (by
      intro d hd
      simp only [List.mem_cons, List.not_mem_nil, or_false] at hd
      rcases hd with z | z | z <;> subst z
      · exact dep_str
      · exact dep_str
      · exact Nat.le_trans h.2.dep (by decide))
  | .ask f ts j, h => depth_tup (m := 5) (by
      intro d hd
      simp only [List.mem_cons, List.not_mem_nil, or_false] at hd
      rcases hd with z | z | z | z <;> subst z
      · exact dep_str
      · exact dep_str
      · refine depth_tup (m := 4) fun d hd => ?_
        obtain ⟨t, ht, rfl⟩ := List.mem_map.mp hd
        exact (h.2.2.2 t ht).dep
      · exact dep_str)
  | .tell x t p, h => by
      have ih := depth_pdP h.2.2
      refine Nat.le_trans (depth_tup (m := pcnt p + 5) ?_) (by show pcnt p + 5 + 1 ≤ 1 + pcnt p + 5; omega)
      intro d hd
      simp only [List.mem_cons, List.not_mem_nil, or_false] at hd
      rcases hd with z | z | z | z <;> subst z
      · exact dep_str
      · exact dep_str
      · exact Nat.le_trans h.2.1.dep (by omega)
      · exact ih
  | .lett x t p, h => by
      have ih := depth_pdP h.2.2
      refine Nat.le_trans (depth_tup (m := pcnt p + 5) ?_) (by show pcnt p + 5 + 1 ≤ 1 + pcnt p + 5; omega)
      intro d hd
      simp only [List.mem_cons, List.not_mem_nil, or_false] at hd
      rcases hd with z | z | z | z <;> subst z
      · exact dep_str
      · exact dep_str
      · exact Nat.le_trans h.2.1.dep (by omega)
      · exact ih
  | .iff t p q, h => by
      have ih1 := depth_pdP h.2.1
      have ih2 := depth_pdP h.2.2
      refine Nat.le_trans (depth_tup (m := pcnt p + pcnt q + 5) ?_) (by show pcnt p + pcnt q + 5 + 1 ≤ 1 + pcnt p + pcnt q + 5; omega)
      intro d hd
      simp only [List.mem_cons, List.not_mem_nil, or_false] at hd
      rcases hd with z | z | z | z <;> subst z
      · exact dep_str
      · exact Nat.le_trans h.1.dep (by omega)
      · omega
      · omega
  | .post j x p q, h => by
      have ih1 := depth_pdP h.2.2.1
      have ih2 := depth_pdP h.2.2.2
      refine Nat.le_trans (depth_tup (m := pcnt p + pcnt q + 5) ?_) (by show pcnt p + pcnt q + 5 + 1 ≤ 1 + pcnt p + pcnt q + 5; omega)
      intro d hd
      simp only [List.mem_cons, List.not_mem_nil, or_false] at hd
      rcases hd with z | z | z | z | z <;> subst z
      · exact dep_str
      · exact dep_str
      · exact dep_str
      · omega
      · omega
/-! ### all parts and terms of a part, counted -/
def ncnt : Pt → Nat
  | .give _ t => 1 + cnt t
  | .ask _ ts _ => 1 + cnts ts
  | .tell _ t p => 1 + cnt t + ncnt p
  | .lett _ t p => 1 + cnt t + ncnt p
  | .iff t p q => 1 + cnt t + ncnt p + ncnt q
  | .post _ _ p q => 1 + ncnt p + ncnt q
theorem cnts_le {ts : List Tm} (h : ∀ t ∈ ts, STm t) : cnts ts ≤ 3 * ts.length := by
  induction ts with
  | nil => exact Nat.le_refl _
  | cons t r ih =>
    have h1 := (h t List.mem_cons_self).cn
    have h2 := ih fun u hu => h u (List.mem_cons_of_mem _ hu)
    rw [cnts_cons, List.length_cons]
    omega
theorem ncnt_le : ∀ {p : Pt}, kP p → ncnt p ≤ 13 * pcnt p
  | .give j t, h => by
    have := h.2.cn
    show 1 + cnt t ≤ 13 * 1
    omega
  | .ask f ts j, h => by
    have := cnts_le h.2.2.2
    have := h.2.2.1
    show 1 + cnts ts ≤ 13 * 1
    omega
  | .tell x t p, h => by
    have := h.2.1.cn
    have := ncnt_le h.2.2
    show 1 + cnt t + ncnt p ≤ 13 * (1 + pcnt p)
    omega
  | .lett x t p, h => by
    have := h.2.1.cn
    have := ncnt_le h.2.2
    show 1 + cnt t + ncnt p ≤ 13 * (1 + pcnt p)
    omega
  | .iff t p q, h => by
    have := h.1.cn
    have := ncnt_le h.2.1
    have := ncnt_le h.2.2
    show 1 + cnt t + ncnt p + ncnt q ≤ 13 * (1 + pcnt p + pcnt q)
    omega
  | .post j x p q, h => by
    have := ncnt_le h.2.2.1
    have := ncnt_le h.2.2.2
    show 1 + ncnt p + ncnt q ≤ 13 * (1 + pcnt p + pcnt q)
    omega
end KB

namespace HT
open PySem PySem.Spec PyProof.Rows
section
variable {prog : Program} {w : World} {A : Around} {E : Value → Shared → Prop} {s : Shared}
theorem sliceApplied_rev {sl : Addr} {vk : Value} {n : Nat} {Q : Int × Int × Nat → Shared → Prop} (hs : s.heap.IsSliceOf sl .none .none vk) (pk : IsPart vk (some (-1)))
    (h : Q ((n : Int) - 1, -1, n) s) : wpAny (model prog w) A (Builtin.Slice.sliceApplied (.ref sl) (pure (n : Int))) Q E s := by
  obtain ⟨os, hos, hcs, hds⟩ := id hs
  unfold Builtin.Slice.sliceApplied Builtin.Slice.sliceFields
  refine wpAny_bind (wpAny_bind (wpAny_field hos hds (x := .none) rfl (wpAny_bind (wpAny_field hos hds (x := .none) rfl (wpAny_bind (wpAny_field hos hds (x := vk) rfl (wpAny_pure ?_)))))))
  refine wpAny_bind (slicePart_ pk ?_)
  show wpAny _ _ (if ((-1 : Int) == 0) = true then _ else _) _ _ s
  rw [if_neg (by decide)]
  refine wpAny_bind (slicePart_none (wpAny_bind (slicePart_none (wpAny_bind (wpAny_pure ?_)))))
  show wpAny _ _ (pure ((n : Int) - 1, (-1 : Int), Builtin.Slice.slicePlaces ((n : Int) - 1) (-1) (-1))) _ _ s
  have e : Builtin.Slice.slicePlaces ((n : Int) - 1) (-1) (-1) = n := by
    unfold Builtin.Slice.slicePlaces
    have h1 : ¬ ((-1 : Int) > 0) := by omega
    have h2 : (-(-1) : Int) = 1 := by decide
    simp only [h1, if_false, h2, Int.ediv_one]
    split <;> omega
  rw [e]
  exact wpAny_pure h
theorem pick_rev (xs : Array Value) : ((List.range xs.size).filterMap fun (m : Nat) => xs[(((xs.size : Nat) : Int) - 1 + (m : Int) * (-1)).toNat]?).toArray = xs.toList.reverse.toArray := by
  have e : (fun (m : Nat) => xs[(((xs.size : Nat) : Int) - 1 + (m : Int) * (-1)).toNat]?) = fun m => xs[xs.size - 1 - m]? := by
    funext m
    have : (((xs.size : Nat) : Int) - 1 + (m : Int) * (-1)).toNat = xs.size - 1 - m := by omega
    rw [this]
  rw [e]
  have h := PySem.W.krv_range xs.size
  have e2 : (List.range xs.size).filterMap (fun m => xs[xs.size - 1 - m]?) = ((List.range xs.size).map fun k => xs.size - 1 - k).filterMap (xs[·]?) := by
    rw [List.filterMap_map]
    rfl
  rw [e2, h, List.filterMap_reverse, PySem.W.krv_all]
theorem getItem_tuple_rev {t sl : Addr} {items : Array Value} {vk : Value} {Q : Value → Shared → Prop} (ht : IsTup s.heap t items) (hs : s.heap.IsSliceOf sl .none .none vk) (pk : IsPart vk (some (-1)))
    (h : Q (.ref s.heap.objs.size) { s with heap := s.heap.push { cls := .type "tuple", data := .seq (items.toList.reverse).toArray } })
    (hsz : items.size ≤ sizeLine) : wpAny (model prog w) A (getItem (.ref t) (.ref sl)) Q E s := by
  have htake : sizeOk (.seq (items.toList.reverse).toArray) := by
    show (items.toList.reverse).toArray.size ≤ sizeLine
    rw [List.size_toArray, List.length_reverse, Array.length_toList]
    omega
  obtain ⟨os, hos, hcs, hds⟩ := id hs
  have hTs : s.TypeIs (.ref sl) "slice" := ⟨os, hos, hcs⟩
  unfold getItem
  try with_reducible refine wpAny_holding ?_
  first | refine wpAny_bind (wpAny_pure ?_) | skip
  refine wpAny_bind (wpAny_sequenceKey ht.typeIs (by decide) ?_)
  refine wpAny_bind (wpAny_callSpecial?_slot (name := Str.ofString "__getitem__") ht.typeIs PyProof.Rows.slot_tuple_getitem
    (wpAny_call_entry PyProof.Rows.slot_tuple_getitem ht.typeIs entry_tuple_getitem ?_ (args_tuple_getitem _ _)))
  show wpAny _ _ (Builtin.Tuple.tupleItemsOf (.ref t) >>= _) _ _ s
  refine wpAny_bind (tupleItemsOf_ ht ?_)
  refine wpAny_bind (wpAny_typeOf hTs ?_)
  rw [if_pos (by decide)]
  refine wpAny_bind (sliceApplied_rev hs pk ?_)
  have hno : ¬ ((((((items.size : Nat) : Int) - 1) == 0 && (-1 : Int) == 1 && items.size == items.size)) = true) := by
    intro q
    rw [Bool.and_eq_true, Bool.and_eq_true] at q
    exact absurd (eq_of_beq q.1.2) (by decide)
  show wpAny _ _ (if ((((items.size : Nat) : Int) - 1) == 0 && (-1 : Int) == 1 && items.size == items.size) = true then _ else _) _ _ s
  rw [if_neg hno, pick_rev]
  first
    | exact wpAny_bind (m := Builtin.Tuple.tupleExact _) (wpAny_newObj_type (wpAny_pure ⟨_, rfl, wpAny_pure h⟩) htake)
    | exact wpAny_bind (m := Builtin.Tuple.tupleExact _) (wpAny_newObj_type (wpAny_bind (wpAny_pure (wpAny_pure ⟨_, rfl, wpAny_pure h⟩))) htake)
    | exact wpAny_bind (wpAny_bind (m := Builtin.Tuple.tupleExact _) (wpAny_newObj_type (wpAny_pure (wpAny_pure ⟨_, rfl, wpAny_pure h⟩)) htake))
    | exact wpAny_bind (wpAny_bind (m := Builtin.Tuple.tupleExact _) (wpAny_newObj_type (wpAny_pure ⟨_, rfl, wpAny_pure h⟩) htake))
end
end HT

namespace KB
open PySem PySem.Spec PyProof.Rows L2
/-- t[::-1] of a tuple -/
def tRevT (K : PySem.W.Frag) (te : TE) (tk : TO) : TE := fun σ H Q => te σ H fun x H1 => tk σ H1 fun k H2 => k = some (-1) ∧ ∃ a xs, x = .ref a ∧ SqT K H2 a xs ∧ ∀ p, H2 p = none → Q (.ref p) (upd H2 p (.tup xs.reverse))
theorem pe_revT {X : Cx} {e : Expr} {te : TE} {st : Option Expr} {tk : TO} {pos p2 : Pos} (he : PE X e te) (hk : PO X st tk) (hs : ∀ a c : Addr, subscripted (.Slice none none st p2) false (.ref a) (.ref c) = operate [.ref a, .ref c] (getItem (.ref a) (.ref c)) := by intro _ _; rfl) : PE X (.Subscript e (.Slice none none st p2) pos) (tRevT X.K te tk) := by
  refine ⟨fun pins s σ H Q I h => ?_⟩
  refine Subscript_ (thn (he.run pins s σ H _ I h) fun v s1 ⟨x, H1, I1, r1, q1⟩ => ?_)
  refine wpAny_Slice (thn ((po_none (X := X)).run pins s1 σ H1 (fun l H' => l = none ∧ H' = H1) I1 ⟨rfl, rfl⟩) fun vl s2 ⟨l, H2, I2, pl, q2⟩ => thn ((po_none (X := X)).run pins s2 σ H2 (fun l H' => l = none ∧ H' = H1) I2 ⟨rfl, q2.2⟩) fun vu s3 ⟨u, H3, I3, pu, q3⟩ => ?_)
  obtain ⟨rfl, e2⟩ := q2
  obtain ⟨rfl, e3⟩ := q3
  subst e3
  cases pl
  cases pu
  refine thn (hk.run pins s3 σ H3 _ I3 q1) fun vk s4 ⟨k, H4, I4, pk, q4⟩ => ?_
  obtain ⟨rfl, a, xs, rfl, hx, q⟩ := q4
  have I5 : Inv X pins σ H4 { s4 with heap := s4.heap.push { cls := .type "slice", data := .fields #[.none, .none, vk] } } := I4.kept (t' := s4.toks) fun b ob q => Heap.get?_push_of_some _ q
  cases r1
  obtain ⟨its, r, ht, hz⟩ := I5.tuple hx
  have hlen : its.toArray.size = xs.length := by rw [List.size_toArray]; exact r.length.symm
  refine tail_any (T := "tuple") (ops := [.ref a, .ref s4.heap.objs.size]) ht.typeIs PyProof.Rows.slot_tuple_getitem.lookup ?_ (hs _ _)
  refine HT.getItem_tuple_rev ht (Heap.IsSliceOf.new ..) pk ?_ (by rw [hlen]; exact hz)
  refine ⟨.ref _, _, I5.laid (t' := s4.toks) (o := .tup xs.reverse) (fun b ob q => Heap.get?_push_of_some _ q) (Nat.le_refl _) ?_, rfl, q _ (I5.hok.fresh (Nat.le_refl _))⟩
  refine ⟨by rw [List.length_reverse]; exact hz, _, ?_, IsTup.new _ _⟩
  show Vals xs.reverse its.toArray.toList.reverse
  exact r.reverse
end KB

namespace KB
open PySem L2

/-! ### trees, whatever they are made of -/
def plL {N : Type} (pl : N → List (List Int × N)) : Nat → List N → List (List Int × N)
  | _, [] => []
  | j, t :: ts => (pl t).map (fun e => ((j : Int) :: e.1, e.2)) ++ plL pl (j + 1) ts
structure Tre (N : Type) where
  kids : N → List N
  sz : N → Nat
  pl : N → List (List Int × N)
  A : Hp → N → Addr → Prop
  tk : ∀ {H H' : Hp} {n : N} {a : Addr}, TK H H' → A H n a → A H' n a
  szk : ∀ n, sz n = 1 + ((kids n).map sz).sum
  plk : ∀ n, pl n = ([], n) :: plL pl 0 (kids n)
namespace Tre
variable {N : Type} (R : Tre N)
def V (H : Hp) (n : N) (v : L2.V) : Prop := ∃ b, v = .ref b ∧ R.A H n b
def szs (ns : List N) : Nat := (ns.map R.sz).sum
def pre (n : N) : List N := (R.pl n).map (·.2)
def pres (ns : List N) : List N := (ns.map R.pre).flatten
theorem V.tk {R : Tre N} {H H' : Hp} (e : TK H H') {n : N} {v : L2.V} (h : R.V H n v) : R.V H' n v := let ⟨b, e1, h1⟩ := h; ⟨b, e1, R.tk e h1⟩
theorem szs_cons (n : N) (r : List N) : R.szs (n :: r) = R.sz n + R.szs r := rfl
theorem szs_app (a b : List N) : R.szs (a ++ b) = R.szs a + R.szs b := by
  unfold szs
  rw [List.map_append, List.sum_append]
theorem pos (n : N) : 1 ≤ R.sz n := by
  rw [R.szk]
  omega
theorem len_szs : ∀ ns : List N, ns.length ≤ R.szs ns
  | [] => Nat.le_refl _
  | n :: r => by
    have h1 := R.pos n
    have h2 := len_szs r
    rw [R.szs_cons, List.length_cons]
    omega
theorem pres_cons (n : N) (r : List N) : R.pres (n :: r) = R.pre n ++ R.pres r := rfl
theorem pres_app (a b : List N) : R.pres (a ++ b) = R.pres a ++ R.pres b := by
  unfold pres
  rw [List.map_append, List.flatten_append]
theorem plL_snd : ∀ (ns : List N) (j : Nat), (plL R.pl j ns).map (·.2) = R.pres ns
  | [], _ => rfl
  | n :: r, j => by
    show ((R.pl n).map (fun e => ((j : Int) :: e.1, e.2)) ++ plL R.pl (j + 1) r).map (·.2) = R.pre n ++ R.pres r
    rw [List.map_append, plL_snd r, List.map_map]
    rfl
theorem pre_mk (n : N) : R.pre n = n :: R.pres (R.kids n) := by
  unfold pre
  rw [R.plk, List.map_cons, R.plL_snd]
theorem plL_len (h : ∀ n, (R.pl n).length = R.sz n) : ∀ (ns : List N) (j : Nat), (plL R.pl j ns).length = R.szs ns
  | [], _ => rfl
  | n :: r, j => by
    show ((R.pl n).map (fun e => ((j : Int) :: e.1, e.2)) ++ plL R.pl (j + 1) r).length = R.sz n + R.szs r
    rw [List.length_append, List.length_map, plL_len h r, h n]
theorem mem_szs {n : N} {ns : List N} (h : n ∈ ns) : R.sz n ≤ R.szs ns := by
  induction ns with
  | nil => cases h
  | cons a r ih =>
    rw [R.szs_cons]
    rcases List.mem_cons.mp h with z | z
    · subst z
      omega
    · have := ih z
      omega
theorem pl_len (m : Nat) : ∀ n, R.sz n ≤ m → (R.pl n).length = R.sz n := by
  induction m with
  | zero => intro n h; have := R.pos n; omega
  | succ m ih =>
    intro n h
    have e := R.szk n
    have go : ∀ (ns : List N) (j : Nat), R.szs ns ≤ m → (plL R.pl j ns).length = R.szs ns := by
      intro ns
      induction ns with
      | nil => intro j _; rfl
      | cons a r ihr =>
        intro j hj
        rw [R.szs_cons] at hj ⊢
        show ((R.pl a).map (fun e => ((j : Int) :: e.1, e.2)) ++ plL R.pl (j + 1) r).length = _
        rw [List.length_append, List.length_map, ihr (j + 1) (by omega), ih a (by omega)]
    rw [R.plk, List.length_cons, go (R.kids n) 0 (by show ((R.kids n).map R.sz).sum ≤ m; omega), e]
    show R.szs (R.kids n) + 1 = 1 + R.szs (R.kids n)
    omega
theorem pl_short (m : Nat) : ∀ n, R.sz n ≤ m → ∀ e ∈ R.pl n, e.1.length < R.sz n := by
  induction m with
  | zero => intro n h; have := R.pos n; omega
  | succ m ih =>
    intro n h
    have e := R.szk n
    have go : ∀ (ns : List N) (j : Nat), R.szs ns ≤ m → ∀ e ∈ plL R.pl j ns, e.1.length ≤ R.szs ns := by
      intro ns
      induction ns with
      | nil => intro j _ e he; cases he
      | cons a r ihr =>
        intro j hj e he
        rw [R.szs_cons] at hj ⊢
        have he' : e ∈ (R.pl a).map (fun e => ((j : Int) :: e.1, e.2)) ++ plL R.pl (j + 1) r := he
        rcases List.mem_append.mp he' with z | z
        · obtain ⟨e', h1, rfl⟩ := List.mem_map.mp z
          have := ih a (by omega) e' h1
          show e'.1.length + 1 ≤ _
          omega
        · have := ihr (j + 1) (by omega) e z
          omega
    intro x hx
    rw [R.plk] at hx
    have e2 : R.sz n = 1 + R.szs (R.kids n) := e
    rcases List.mem_cons.mp hx with z | z
    · subst z
      show 0 < R.sz n
      omega
    · have := go (R.kids n) 0 (by omega) x z
      omega
theorem sz_pl (m : Nat) : ∀ n, R.sz n ≤ m → ∀ e ∈ R.pl n, R.sz e.2 ≤ R.sz n := by
  induction m with
  | zero => intro n h; have := R.pos n; omega
  | succ m ih =>
    intro n h
    have e := R.szk n
    have go : ∀ (ns : List N) (j : Nat), R.szs ns ≤ m → ∀ e ∈ plL R.pl j ns, R.sz e.2 ≤ R.szs ns := by
      intro ns
      induction ns with
      | nil => intro j _ e he; cases he
      | cons a r ihr =>
        intro j hj e he
        rw [R.szs_cons] at hj ⊢
        have he' : e ∈ (R.pl a).map (fun e => ((j : Int) :: e.1, e.2)) ++ plL R.pl (j + 1) r := he
        rcases List.mem_append.mp he' with z | z
        · obtain ⟨e', h1, rfl⟩ := List.mem_map.mp z
          have := ih a (by omega) e' h1
          show R.sz e'.2 ≤ _
          omega
        · have := ihr (j + 1) (by omega) e z
          omega
    intro x hx
    rw [R.plk] at hx
    have e2 : R.sz n = 1 + R.szs (R.kids n) := e
    rcases List.mem_cons.mp hx with z | z
    · subst z
      exact Nat.le_refl _
    · have := go (R.kids n) 0 (by omega) x z
      omega
end Tre
theorem All2.rev {α : Type} {S : α → V → Prop} : ∀ {as : List α} {vs : List V}, All2 S as vs → All2 S as.reverse vs.reverse
  | [], [], _ => trivial
  | a :: as, v :: vs, h => by
    rw [List.reverse_cons, List.reverse_cons]
    exact (All2.rev h.2).app ⟨h.1, trivial⟩
  | [], _ :: _, h => h.elim
  | _ :: _, [], h => h.elim

section
variable {P : Program} {w : World} {K : PySem.W.Frag} {mg : Str → Option Value} {base : Heap}
/-- what a function promises that tells the parts right in a part -/
def spKids {N : Type} (R : Tre N) : Sp := fun vs H Q _ => ∃ (n : N) (a : Addr), vs = [.ref a] ∧ R.A H n a ∧ ∀ p H' us, Same H H' → H' p = some (.tup us) → All2 (R.V H') (R.kids n) us → Q (.ref p) H'
/-! ### placed -/
/-- a tuple that begins with pre -/
def PlV (H : Hp) (pre : List V) (ks : List Int) (v : V) : Prop := ∃ r, v = .ref r ∧ H r = some (.tup (pre ++ ks.map V.int))
theorem PlV.tk {H H' : Hp} (e : TK H H') {pre : List V} {ks : List Int} {v : V} (h : PlV H pre ks v) : PlV H' pre ks v :=
  let ⟨r, e1, h1⟩ := h; ⟨r, e1, e _ _ h1⟩
/-- a place and its part -/
def EntV {N : Type} (A : Hp → N → Addr → Prop) (H : Hp) (pre : List V) (kt : List Int × N) (v : V) : Prop := ∃ q r b, v = .ref q ∧ H q = some (.tup [.ref r, .ref b]) ∧ H r = some (.tup (pre ++ kt.1.map V.int)) ∧ A H kt.2 b
theorem EntV.tk {N : Type} {A : Hp → N → Addr → Prop} {H H' : Hp} (ta : ∀ {n : N} {a : Addr}, TK H H' → A H n a → A H' n a) (e : TK H H') {pre : List V} {kt : List Int × N} {v : V} (h : EntV A H pre kt v) : EntV A H' pre kt v :=
  let ⟨q, r, b, e1, h1, h2, h3⟩ := h; ⟨q, r, b, e1, e _ _ h1, e _ _ h2, ta e h3⟩
def entsN {N : Type} (ks : List Int) : Nat → List N → List (List Int × N)
  | _, [] => []
  | j, t :: ts => (ks ++ [(j : Int)], t) :: entsN ks (j + 1) ts
theorem entsN_snd {N : Type} {ks : List Int} : ∀ {ts : List N} {j : Nat}, (entsN ks j ts).map (·.2) = ts
  | [], _ => rfl
  | t :: ts, j => by
    show t :: (entsN ks (j + 1) ts).map (·.2) = t :: ts
    rw [entsN_snd]
theorem entsN_drop {N : Type} {ks : List Int} {kl : List N} {i : Nat} (h : i < kl.length) : entsN ks i (kl.drop i) = (ks ++ [(i : Int)], kl[i]) :: entsN ks (i + 1) (kl.drop (i + 1)) := by
  rw [List.drop_eq_getElem_cons h]
  rfl
namespace Tre
variable {N : Type} (R : Tre N)
def at_ (ks : List Int) (l : List (List Int × N)) : List (List Int × N) := l.map fun e => (ks ++ e.1, e.2)
def spread (es : List (List Int × N)) : List (List Int × N) := (es.map fun kt => at_ kt.1 (R.pl kt.2)).flatten
def ecnt (es : List (List Int × N)) : Nat := R.szs (es.map (·.2))
theorem spread_cons {e : List Int × N} {r : List (List Int × N)} : R.spread (e :: r) = at_ e.1 (R.pl e.2) ++ R.spread r := rfl
theorem spread_app {a b : List (List Int × N)} : R.spread (a ++ b) = R.spread a ++ R.spread b := by
  unfold spread
  rw [List.map_append, List.flatten_append]
theorem spread_ents {ks : List Int} : ∀ {ts : List N} {j : Nat}, R.spread (entsN ks j ts) = at_ ks (plL R.pl j ts)
  | [], _ => rfl
  | t :: ts, j => by
    show R.spread ((ks ++ [(j : Int)], t) :: entsN ks (j + 1) ts) = at_ ks ((R.pl t).map (fun e => ((j : Int) :: e.1, e.2)) ++ plL R.pl (j + 1) ts)
    rw [R.spread_cons, spread_ents]
    unfold at_
    rw [List.map_append, List.map_map]
    congr 1
    refine List.map_congr_left fun p _ => ?_
    show ((ks ++ [(j : Int)]) ++ p.1, p.2) = (ks ++ ((j : Int) :: p.1), p.2)
    rw [List.append_assoc]
    rfl
end Tre
end
end KB

namespace KB
open PySem L2

def restP : Pt → List Pt
  | .give _ _ => []
  | .ask _ _ _ => []
  | .tell _ _ p => [p]
  | .lett _ _ p => [p]
  | .iff _ p q => [p, q]
  | .post _ _ p q => [p, q]
/-! ### turned parts as a tree -/
def plP : Pt → List (List Int × Pt)
  | .give j t => [([], .give j t)]
  | .ask f ts j => [([], .ask f ts j)]
  | .tell x t p => ([], .tell x t p) :: ((plP p).map (fun e => (((0 : Nat) : Int) :: e.1, e.2)) ++ [])
  | .lett x t p => ([], .lett x t p) :: ((plP p).map (fun e => (((0 : Nat) : Int) :: e.1, e.2)) ++ [])
  | .iff t p q => ([], .iff t p q) :: ((plP p).map (fun e => (((0 : Nat) : Int) :: e.1, e.2)) ++ ((plP q).map (fun e => (((1 : Nat) : Int) :: e.1, e.2)) ++ []))
  | .post j x p q => ([], .post j x p q) :: ((plP p).map (fun e => (((0 : Nat) : Int) :: e.1, e.2)) ++ ((plP q).map (fun e => (((1 : Nat) : Int) :: e.1, e.2)) ++ []))
def TrP : Tre Pt where
  kids := restP
  sz := pcnt
  pl := plP
  A := PAt
  tk e h := PAt.tk e h
  szk n := by cases n <;> simp [pcnt, restP, Nat.add_assoc]
  plk n := by cases n <;> rfl
theorem cut3 {x y z : V} {r : List V} : cutV (x :: y :: z :: r) (some 3) none = r := cut_from (i := 3) (by decide) (Nat.succ_le_succ len2)
theorem len3 {α : Type} {x y z : α} {r : List α} : 3 ≤ (x :: y :: z :: r).length := Nat.succ_le_succ len2
theorem all2_fn {H : Hp} : ∀ {n : Nat} {k : Fin n → Tm} {ys : Fin n → Addr}, (∀ i, At H (k i) (ys i)) → All2 (RefV H) (List.ofFn k) (Rfs ys)
  | 0, _, _, _ => trivial
  | n + 1, k, ys, h => by
    unfold Rfs
    rw [List.ofFn_succ, List.ofFn_succ]
    exact ⟨⟨ys 0, rfl, h 0⟩, all2_fn (k := fun i => k i.succ) (ys := fun i => ys i.succ) fun i => h i.succ⟩
theorem simple_mk {h : Hd} {n : Nat} {k : Fin n → Tm} (e : simple (.mk h n k) = true) : flatHd h = true ∧ ∀ i, simple (k i) = true := by
  have e' : (flatHd h && (List.ofFn fun i => simple (k i)).all id) = true := e
  rw [Bool.and_eq_true, List.all_eq_true] at e'
  exact ⟨e'.1, fun i => e'.2 _ (List.mem_ofFn.mpr ⟨i, rfl⟩)⟩
theorem all2_mem {α : Type} {R S : α → V → Prop} : ∀ {as : List α} {vs : List V}, All2 R as vs → (∀ a ∈ as, ∀ v, R a v → S a v) → All2 S as vs
  | [], [], _, _ => trivial
  | a :: as, v :: vs, h, e => ⟨e a List.mem_cons_self v h.1, all2_mem h.2 fun b hb => e b (List.mem_cons_of_mem _ hb)⟩
  | [], _ :: _, h, _ => h.elim
  | _ :: _, [], h, _ => h.elim
def heads : List V := [.str "number", .str "name", .str "plus", .str "less"]
theorem flat_in2 (h : Hd) : inV (.str (hs h)) heads = flatHd h := by
  cases h <;> rfl
/-- how a part begins -/
def hsP : Pt → Str
  | .give _ _ => "give" | .ask _ _ _ => "ask" | .tell _ _ _ => "tell" | .lett _ _ _ => "let" | .iff _ _ _ => "if" | .post _ _ _ _ => "post"
theorem PAt.head {H : Hp} {p : Pt} {a : Addr} (h : PAt H p a) : ∃ r, H a = some (.tup (.str (hsP p) :: r)) := by
  cases p with
  | give j t => obtain ⟨b, h1, _⟩ := h; exact ⟨_, h1⟩
  | ask f ts j => obtain ⟨b, vs, h1, _⟩ := h; exact ⟨_, h1⟩
  | tell x t p => obtain ⟨b, c, h1, _⟩ := h; exact ⟨_, h1⟩
  | lett x t p => obtain ⟨b, c, h1, _⟩ := h; exact ⟨_, h1⟩
  | iff t p q => obtain ⟨b, c, d, h1, _⟩ := h; exact ⟨_, h1⟩
  | post j x p q => obtain ⟨c, d, h1, _⟩ := h; exact ⟨_, h1⟩
def handV : Pt → V
  | .give j _ => .str j
  | .ask _ _ j => .str j
  | _ => .non
theorem kP_rest {p : Pt} (h : kP p) : ∀ u ∈ restP p, kP u := by
  intro u hu
  cases p with
  | give j t => cases hu
  | ask f ts j => cases hu
  | tell x t p => rw [List.mem_singleton.mp hu]; exact h.2.2
  | lett x t p => rw [List.mem_singleton.mp hu]; exact h.2.2
  | iff t p q =>
    rcases List.mem_cons.mp hu with z | z
    · rw [z]; exact h.2.1
    · rw [List.mem_singleton.mp z]; exact h.2.2
  | post j x p q =>
    rcases List.mem_cons.mp hu with z | z
    · rw [z]; exact h.2.2.1
    · rw [List.mem_singleton.mp z]; exact h.2.2.2
section
variable {P : Program} {w : World} {K : PySem.W.Frag} {mg : Str → Option Value} {base : Heap}
/-! ### rest_of -/
abbrev srest_of : Stmt := top 2
theorem screst_of : FnScope ["part"] ["part"] (defScope srest_of) := ⟨rfl, rfl, rfl, by decide +kernel, rfl, by decide +kernel, by decide +kernel⟩
theorem ok_rest {f : Addr} {fd : FuncData} (F : Fun K "rest_of" "rest_of" srest_of f fd) : FnOk P w K mg base CX0 1 f fd ["part"] (spKids TrP) := by
  refine F.ok screst_of (fun vs H Q E h => ?_) (fun cdv A outer s H vs Q E hr h => ?_)
  · obtain ⟨p, a, rfl, _⟩ := h
    rfl
  obtain ⟨p, a, rfl, hA, q⟩ := h
  refine ⟨_, (pss_cons (ps_if (pt_cmpR op_eq (pe_ix ix_tup (pv 0) pe_int (fun _ _ => rfl)) pe_str (nomark _)) (pss_one (ps_ret (pe_slice sl_tupA (pv 0) (po_some pe_int) po_none))) pss_nil)
    (pss_cons (ps_if (pt_cmpR op_in_seq (pe_ix ix_tup (pv 0) pe_int (fun _ _ => rfl)) (pe_tup (pa_cons pe_str (pa_cons pe_str pa_nil))) rfl) (pss_one (ps_ret (pe_tup pa_nil))) pss_nil)
    (pss_one (ps_ret (pe_slice sl_tupA (pv 0) (po_some pe_int) po_none))))), ?_⟩
  have hA' : PAt H p a := hA
  obtain ⟨r, hd⟩ := hA'.head
  refine ⟨_, rfl, a, _, _, _, rfl, rfl, SqT.of hd, at0, rfl, _, rfl, ?_⟩
  cases p with
  | iff t p1 p2 =>
    obtain ⟨b, c, d, h1, h2, h3, h4⟩ := hA'
    refine itT rfl ⟨_, rfl, _, rfl, a, _, rfl, SqT.of h1, fun z => absurd z (not_whole (by decide) len2), fun _ pa hpa => ?_⟩
    have s1 := same_new hpa (.tup (cutV [.str "if", .ref b, .ref c, .ref d] (some 2) none))
    exact q pa _ [.ref c, .ref d] s1 (by rw [upd_same, cut2]) ⟨⟨c, rfl, PAt.tk (tk_same s1) h3⟩, ⟨d, rfl, PAt.tk (tk_same s1) h4⟩, trivial⟩
  | give j t =>
    refine itF rfl ⟨_, rfl, a, _, _, _, rfl, rfl, SqT.of hd, at0, sz (by show 2 ≤ 100000; decide), fun t1 ht1 => ⟨t1, _, rfl, .inr (SqT.of upd_same), rfl, rfl, _, rfl, itT rfl ⟨sz (by show 0 ≤ 100000; decide), fun pa hpa => ?_⟩⟩⟩
    exact q pa _ [] ((same_new ht1 _).trans (same_new hpa _)) upd_same trivial
  | ask g ts j =>
    refine itF rfl ⟨_, rfl, a, _, _, _, rfl, rfl, SqT.of hd, at0, sz (by show 2 ≤ 100000; decide), fun t1 ht1 => ⟨t1, _, rfl, .inr (SqT.of upd_same), rfl, rfl, _, rfl, itT rfl ⟨sz (by show 0 ≤ 100000; decide), fun pa hpa => ?_⟩⟩⟩
    exact q pa _ [] ((same_new ht1 _).trans (same_new hpa _)) upd_same trivial
  | tell x t p1 =>
    obtain ⟨b, c, h1, h2, h3⟩ := hA'
    refine itF rfl ⟨_, rfl, a, _, _, _, rfl, rfl, SqT.of h1, at0, sz (by show 2 ≤ 100000; decide), fun t1 ht1 => ⟨t1, _, rfl, .inr (SqT.of upd_same), rfl, rfl, _, rfl, itF rfl ?_⟩⟩
    have s0 := same_new ht1 (.tup [.str "give", .str "ask"])
    refine ⟨_, rfl, _, rfl, a, _, rfl, SqT.of (s0 _ _ h1), fun z => absurd z (not_whole (by decide) len3), fun _ pa hpa => ?_⟩
    have s1 := s0.trans (same_new hpa (.tup (cutV [.str "tell", .str x, .ref b, .ref c] (some 3) none)))
    exact q pa _ [.ref c] s1 (by rw [upd_same, cut3]) ⟨⟨c, rfl, PAt.tk (tk_same s1) h3⟩, trivial⟩
  | lett x t p1 =>
    obtain ⟨b, c, h1, h2, h3⟩ := hA'
    refine itF rfl ⟨_, rfl, a, _, _, _, rfl, rfl, SqT.of h1, at0, sz (by show 2 ≤ 100000; decide), fun t1 ht1 => ⟨t1, _, rfl, .inr (SqT.of upd_same), rfl, rfl, _, rfl, itF rfl ?_⟩⟩
    have s0 := same_new ht1 (.tup [.str "give", .str "ask"])
    refine ⟨_, rfl, _, rfl, a, _, rfl, SqT.of (s0 _ _ h1), fun z => absurd z (not_whole (by decide) len3), fun _ pa hpa => ?_⟩
    have s1 := s0.trans (same_new hpa (.tup (cutV [.str "let", .str x, .ref b, .ref c] (some 3) none)))
    exact q pa _ [.ref c] s1 (by rw [upd_same, cut3]) ⟨⟨c, rfl, PAt.tk (tk_same s1) h3⟩, trivial⟩
  | post j x p1 p2 =>
    obtain ⟨c, d, h1, h2, h3⟩ := hA'
    refine itF rfl ⟨_, rfl, a, _, _, _, rfl, rfl, SqT.of h1, at0, sz (by show 2 ≤ 100000; decide), fun t1 ht1 => ⟨t1, _, rfl, .inr (SqT.of upd_same), rfl, rfl, _, rfl, itF rfl ?_⟩⟩
    have s0 := same_new ht1 (.tup [.str "give", .str "ask"])
    refine ⟨_, rfl, _, rfl, a, _, rfl, SqT.of (s0 _ _ h1), fun z => absurd z (not_whole (by decide) len3), fun _ pa hpa => ?_⟩
    have s1 := s0.trans (same_new hpa (.tup (cutV [.str "post", .str j, .str x, .ref c, .ref d] (some 3) none)))
    exact q pa _ [.ref c, .ref d] s1 (by rw [upd_same, cut3]) ⟨⟨c, rfl, PAt.tk (tk_same s1) h2⟩, ⟨d, rfl, PAt.tk (tk_same s1) h3⟩, trivial⟩
end
theorem at3 {x y z u : V} {r : List V} : atI (x :: y :: z :: u :: r) 3 = some u := at_of (j := 3) rfl rfl
theorem at4 {x y z u t : V} {r : List V} : atI (x :: y :: z :: u :: t :: r) 4 = some t := at_of (j := 4) rfl rfl
end KB

namespace KB
open PySem L2 HT

/-! ### the law's own walks -/
def lkids : Pt → List (Int × Pt)
  | .give _ _ => []
  | .ask _ _ _ => []
  | .tell _ _ p => [(1, p)]
  | .lett _ _ p => [(1, p)]
  | .iff _ p q => [(1, p), (2, q)]
  | .post _ _ p q => [(0, p), (1, q)]
def allP : Pt → List (List Int × Pt)
  | .give j t => [([], .give j t)]
  | .ask f ts j => [([], .ask f ts j)]
  | .tell x t p => ([], .tell x t p) :: ((allP p).map (fun e => ((1 : Int) :: e.1, e.2)) ++ [])
  | .lett x t p => ([], .lett x t p) :: ((allP p).map (fun e => ((1 : Int) :: e.1, e.2)) ++ [])
  | .iff t p q => ([], .iff t p q) :: ((allP p).map (fun e => ((1 : Int) :: e.1, e.2)) ++ ((allP q).map (fun e => ((2 : Int) :: e.1, e.2)) ++ []))
  | .post j x p q => ([], .post j x p q) :: ((allP p).map (fun e => ((0 : Int) :: e.1, e.2)) ++ ((allP q).map (fun e => ((1 : Int) :: e.1, e.2)) ++ []))
def allK (ks : List (Int × Pt)) : List (List Int × Pt) := (ks.map fun k => (allP k.2).map fun e => (k.1 :: e.1, e.2)).flatten
theorem allP_mk (p : Pt) : allP p = ([], p) :: allK (lkids p) := by cases p <;> rfl
def endsP : Pt → List Str
  | .give j _ => [j]
  | .ask _ _ j => [j]
  | .tell _ _ p => endsP p ++ []
  | .lett _ _ p => endsP p ++ []
  | .iff _ p q => endsP p ++ (endsP q ++ [])
  | .post _ _ p q => endsP p ++ (endsP q ++ [])
def endsK (ks : List (Int × Pt)) : List Str := (ks.map fun k => endsP k.2).flatten
theorem pc_pos : ∀ p : Pt, 1 ≤ pcnt p := fun p => TrP.pos p
theorem allP_len : ∀ p : Pt, (allP p).length = pcnt p
  | .give j t => rfl
  | .ask f ts j => rfl
  | .tell x t p => by simp [allP, pcnt, allP_len p]; omega
  | .lett x t p => by simp [allP, pcnt, allP_len p]; omega
  | .iff t p q => by simp [allP, pcnt, allP_len p, allP_len q]; omega
  | .post j x p q => by simp [allP, pcnt, allP_len p, allP_len q]; omega
theorem endsP_len : ∀ p : Pt, (endsP p).length ≤ pcnt p
  | .give j t => Nat.le_refl 1
  | .ask f ts j => Nat.le_refl 1
  | .tell x t p => by have := endsP_len p; simp [endsP, pcnt]; omega
  | .lett x t p => by have := endsP_len p; simp [endsP, pcnt]; omega
  | .iff t p q => by have := endsP_len p; have := endsP_len q; simp [endsP, pcnt]; omega
  | .post j x p q => by have := endsP_len p; have := endsP_len q; simp [endsP, pcnt]; omega
theorem lk_len (p : Pt) : (lkids p).length ≤ 2 := by cases p <;> simp [lkids]
theorem lk_cnt {p : Pt} {k : Int × Pt} (h : k ∈ lkids p) : pcnt k.2 < pcnt p := by
  cases p with
  | give j t => cases h
  | ask f ts j => cases h
  | tell x t p => rw [List.mem_singleton.mp h]; show pcnt p < 1 + pcnt p; omega
  | lett x t p => rw [List.mem_singleton.mp h]; show pcnt p < 1 + pcnt p; omega
  | iff t p q =>
    rcases List.mem_cons.mp h with z | z
    · rw [z]; show pcnt p < 1 + pcnt p + pcnt q; omega
    · rw [List.mem_singleton.mp z]; show pcnt q < 1 + pcnt p + pcnt q; omega
  | post j x p q =>
    rcases List.mem_cons.mp h with z | z
    · rw [z]; show pcnt p < 1 + pcnt p + pcnt q; omega
    · rw [List.mem_singleton.mp z]; show pcnt q < 1 + pcnt p + pcnt q; omega
def kcnt (ks : List (Int × Pt)) : Nat := (ks.map fun k => pcnt k.2).sum
theorem kcnt_lk (p : Pt) : kcnt (lkids p) < pcnt p := by
  cases p <;> simp [kcnt, lkids, pcnt] <;> omega
theorem kcnt_take (ks : List (Int × Pt)) (i : Nat) : kcnt (ks.take i) ≤ kcnt ks := by
  have e : kcnt ks = kcnt (ks.take i) + kcnt (ks.drop i) := by
    unfold kcnt
    rw [← List.sum_append, ← List.map_append, List.take_append_drop]
  omega
theorem allK_len : ∀ ks : List (Int × Pt), (allK ks).length = kcnt ks
  | [] => rfl
  | k :: r => by
    show ((allP k.2).map (fun e => (k.1 :: e.1, e.2)) ++ allK r).length = pcnt k.2 + kcnt r
    rw [List.length_append, List.length_map, allP_len, allK_len r]
theorem endsK_len : ∀ ks : List (Int × Pt), (endsK ks).length ≤ kcnt ks
  | [] => Nat.le_refl _
  | k :: r => by
    have := endsK_len r
    have := endsP_len k.2
    show (endsP k.2 ++ endsK r).length ≤ pcnt k.2 + kcnt r
    rw [List.length_append]
    omega
theorem allK_take {ks : List (Int × Pt)} {i : Nat} {k : Int × Pt} (h : ks[i]? = some k) : allK (ks.take (i + 1)) = allK (ks.take i) ++ (allP k.2).map fun e => (k.1 :: e.1, e.2) := by
  obtain ⟨hi, he⟩ := List.getElem?_eq_some_iff.mp h
  unfold allK
  rw [List.take_succ_eq_append_getElem hi, List.map_append, List.flatten_append, he]
  simp
theorem endsK_take {ks : List (Int × Pt)} {i : Nat} {k : Int × Pt} (h : ks[i]? = some k) : endsK (ks.take (i + 1)) = endsK (ks.take i) ++ endsP k.2 := by
  obtain ⟨hi, he⟩ := List.getElem?_eq_some_iff.mp h
  unfold endsK
  rw [List.take_succ_eq_append_getElem hi, List.map_append, List.flatten_append, he]
  simp
/-- a part within, by its number -/
def KidV (H : Hp) (k : Int × Pt) (v : V) : Prop := ∃ q b, v = .ref q ∧ H q = some (.tup [.int k.1, .ref b]) ∧ PAt H k.2 b
theorem KidV.tk {H H' : Hp} (e : TK H H') {k : Int × Pt} {v : V} (h : KidV H k v) : KidV H' k v := let ⟨q, b, e1, h1, h2⟩ := h; ⟨q, b, e1, e _ _ h1, h2.tk e⟩
theorem EntV.deep {H : Hp} {pre : List V} {i : Int} {e : List Int × Pt} {v : V} (h : EntV PAt H (pre ++ [.int i]) e v) : EntV PAt H pre (i :: e.1, e.2) v := by
  obtain ⟨q, r, b, e1, h1, h2, h3⟩ := h
  refine ⟨q, r, b, e1, h1, ?_, h3⟩
  rw [h2, List.append_assoc]
  rfl
theorem EntV.tkP {H H' : Hp} (e : TK H H') {pre : List V} {kt : List Int × Pt} {v : V} (h : EntV PAt H pre kt v) : EntV PAt H' pre kt v := EntV.tk (fun t z => PAt.tk t z) e h
theorem flat_strs : ∀ xs : List Str, (xs.map V.str).all flatV = true
  | [] => rfl
  | x :: r => by
    rw [List.map_cons, List.all_cons, flat_strs r]
    rfl

theorem hsP_give {p : Pt} (h : hsP p = "give") : ∃ j t, p = .give j t := by
  cases p <;> dsimp only [hsP] at h <;> first | exact ⟨_, _, rfl⟩ | exact absurd h (by decide)
theorem hsP_ask {p : Pt} (h : hsP p = "ask") : ∃ f ts j, p = .ask f ts j := by
  cases p <;> dsimp only [hsP] at h <;> first | exact ⟨_, _, _, rfl⟩ | exact absurd h (by decide)
section
variable {P : Program} {w : World} {K : PySem.W.Frag} {mg : Str → Option Value} {base : Heap}
/-! ### _law_kids -/
def spLKids : Sp := fun vs H Q _ => ∃ (a : Addr) (p : Pt), vs = [.ref a] ∧ PAt H p a ∧ ∀ r H' us, H r = none → Same H H' → H' r = some (.lst us) → All2 (KidV H') (lkids p) us → Q (.ref r) H'
abbrev s_law_kids : Stmt := top 27
theorem scLkids : FnScope ["part"] ["part"] (defScope s_law_kids) := ⟨rfl, rfl, rfl, by decide +kernel, rfl, by decide +kernel, by decide +kernel⟩
theorem ok_lkids {f : Addr} {fd : FuncData} (F : Fun K "_law_kids" "_law_kids" s_law_kids f fd) : FnOk P w K mg base CX0 1 f fd ["part"] spLKids := by
  refine F.ok scLkids (fun vs H Q E h => ?_) (fun cdv A outer s H vs Q E hr h => ?_)
  · obtain ⟨a, p, rfl, _⟩ := h
    rfl
  obtain ⟨a, p, rfl, hA, q⟩ := h
  refine ⟨_, (pss_cons (ps_if (PW.pt (pw_or (pt_cmpR op_eq (pe_ix ix_tup (pv 0) pe_int (fun _ _ => rfl)) pe_str (nomark _)) (pw_or1 (pt_cmpR op_eq (pe_ix ix_tup (pv 0) pe_int (fun _ _ => rfl)) pe_str (nomark _))))) (pss_one (ps_ret (pe_lst pa_nil))) pss_nil)
    (pss_cons (ps_if (pt_cmpR op_eq (pe_ix ix_tup (pv 0) pe_int (fun _ _ => rfl)) pe_str (nomark _)) (pss_one (ps_ret (pe_lst (pa_cons (pe_tup (pa_cons pe_int (pa_cons (pe_ix ix_tup (pv 0) pe_int (fun _ _ => rfl)) pa_nil))) (pa_cons (pe_tup (pa_cons pe_int (pa_cons (pe_ix ix_tup (pv 0) pe_int (fun _ _ => rfl)) pa_nil))) pa_nil))))) pss_nil)
    (pss_cons (ps_if (pt_cmpR op_eq (pe_ix ix_tup (pv 0) pe_int (fun _ _ => rfl)) pe_str (nomark _)) (pss_one (ps_ret (pe_lst (pa_cons (pe_tup (pa_cons pe_int (pa_cons (pe_ix ix_tup (pv 0) pe_int (fun _ _ => rfl)) pa_nil))) (pa_cons (pe_tup (pa_cons pe_int (pa_cons (pe_ix ix_tup (pv 0) pe_int (fun _ _ => rfl)) pa_nil))) pa_nil))))) pss_nil)
    (pss_one (ps_ret (pe_lst (pa_cons (pe_tup (pa_cons pe_int (pa_cons (pe_ix ix_tup (pv 0) pe_int (fun _ _ => rfl)) pa_nil))) pa_nil))))))), ?_⟩
  obtain ⟨r0, hd⟩ := hA.head
  refine ⟨_, rfl, a, _, _, _, rfl, rfl, SqT.of hd, at0, rfl, _, rfl, ?_⟩
  cases p with
  | give j t => exact itT rfl (itT rfl ⟨sz (by show 0 ≤ 100000; decide), fun r hr => q r _ [] hr (same_new hr _) upd_same trivial⟩)
  | ask g ts j => exact itF rfl ⟨_, rfl, a, _, _, _, rfl, rfl, SqT.of hd, at0, rfl, _, rfl, itT rfl ⟨sz (by show 0 ≤ 100000; decide), fun r hr => q r _ [] hr (same_new hr _) upd_same trivial⟩⟩
  | post j x p p2 =>
    obtain ⟨c, d, h1, h2, h3⟩ := hA
    refine itF rfl ⟨_, rfl, a, _, _, _, rfl, rfl, SqT.of h1, at0, rfl, _, rfl, itF rfl ⟨_, rfl, a, _, _, _, rfl, rfl, SqT.of h1, at0, rfl, _, rfl, itT rfl ?_⟩⟩
    refine ⟨_, rfl, a, _, _, _, rfl, rfl, SqT.of h1, at3, sz (by show 2 ≤ 100000; decide), fun t1 ht1 => ?_⟩
    have s1 := same_new ht1 (.tup [.int 0, .ref c])
    refine ⟨_, rfl, a, _, _, _, rfl, rfl, SqT.of (s1 _ _ h1), at4, sz (by show 2 ≤ 100000; decide), fun t2 ht2 => ?_⟩
    have s2 := same_new ht2 (.tup [.int 1, .ref d])
    refine ⟨sz (by show 2 ≤ 100000; decide), fun r hr => ?_⟩
    have s3 := same_new hr (.lst [.ref t1, .ref t2])
    have s := s1.trans (s2.trans s3)
    exact q r _ _ ((s1.trans s2).free hr) s upd_same ⟨⟨t1, c, rfl, (s2.trans s3) _ _ upd_same, h2.tk (tk_same s)⟩, ⟨t2, d, rfl, s3 _ _ upd_same, h3.tk (tk_same s)⟩, trivial⟩
  | iff t p p2 =>
    obtain ⟨b, c, d, h1, h2, h3, h4⟩ := hA
    refine itF rfl ⟨_, rfl, a, _, _, _, rfl, rfl, SqT.of h1, at0, rfl, _, rfl, itF rfl ⟨_, rfl, a, _, _, _, rfl, rfl, SqT.of h1, at0, rfl, _, rfl, itF rfl ⟨_, rfl, a, _, _, _, rfl, rfl, SqT.of h1, at0, rfl, _, rfl, itT rfl ?_⟩⟩⟩
    refine ⟨_, rfl, a, _, _, _, rfl, rfl, SqT.of h1, at2, sz (by show 2 ≤ 100000; decide), fun t1 ht1 => ?_⟩
    have s1 := same_new ht1 (.tup [.int 1, .ref c])
    refine ⟨_, rfl, a, _, _, _, rfl, rfl, SqT.of (s1 _ _ h1), at3, sz (by show 2 ≤ 100000; decide), fun t2 ht2 => ?_⟩
    have s2 := same_new ht2 (.tup [.int 2, .ref d])
    refine ⟨sz (by show 2 ≤ 100000; decide), fun r hr => ?_⟩
    have s3 := same_new hr (.lst [.ref t1, .ref t2])
    have s := s1.trans (s2.trans s3)
    exact q r _ _ ((s1.trans s2).free hr) s upd_same ⟨⟨t1, c, rfl, (s2.trans s3) _ _ upd_same, h3.tk (tk_same s)⟩, ⟨t2, d, rfl, s3 _ _ upd_same, h4.tk (tk_same s)⟩, trivial⟩
  | tell x t p =>
    obtain ⟨b, c, h1, h2, h3⟩ := hA
    refine itF rfl ⟨_, rfl, a, _, _, _, rfl, rfl, SqT.of h1, at0, rfl, _, rfl, itF rfl ⟨_, rfl, a, _, _, _, rfl, rfl, SqT.of h1, at0, rfl, _, rfl, itF rfl ⟨_, rfl, a, _, _, _, rfl, rfl, SqT.of h1, at0, rfl, _, rfl, itF rfl ?_⟩⟩⟩
    refine ⟨_, rfl, a, _, _, _, rfl, rfl, SqT.of h1, at3, sz (by show 2 ≤ 100000; decide), fun t1 ht1 => ?_⟩
    have s1 := same_new ht1 (.tup [.int 1, .ref c])
    refine ⟨sz (by show 1 ≤ 100000; decide), fun r hr => ?_⟩
    have s3 := same_new hr (.lst [.ref t1])
    exact q r _ _ (s1.free hr) (s1.trans s3) upd_same ⟨⟨t1, c, rfl, s3 _ _ upd_same, h3.tk (tk_same (s1.trans s3))⟩, trivial⟩
  | lett x t p =>
    obtain ⟨b, c, h1, h2, h3⟩ := hA
    refine itF rfl ⟨_, rfl, a, _, _, _, rfl, rfl, SqT.of h1, at0, rfl, _, rfl, itF rfl ⟨_, rfl, a, _, _, _, rfl, rfl, SqT.of h1, at0, rfl, _, rfl, itF rfl ⟨_, rfl, a, _, _, _, rfl, rfl, SqT.of h1, at0, rfl, _, rfl, itF rfl ?_⟩⟩⟩
    refine ⟨_, rfl, a, _, _, _, rfl, rfl, SqT.of h1, at3, sz (by show 2 ≤ 100000; decide), fun t1 ht1 => ?_⟩
    have s1 := same_new ht1 (.tup [.int 1, .ref c])
    refine ⟨sz (by show 1 ≤ 100000; decide), fun r hr => ?_⟩
    have s3 := same_new hr (.lst [.ref t1])
    exact q r _ _ (s1.free hr) (s1.trans s3) upd_same ⟨⟨t1, c, rfl, s3 _ _ upd_same, h3.tk (tk_same (s1.trans s3))⟩, trivial⟩
/-! ### _law_all -/
def spLAll : Nat → Sp
  | 0 => fun _ _ _ _ => False
  | n + 1 => fun vs H Q _ => ∃ (a pl : Addr) (p : Pt) (pre : List V), vs = [.ref a, .ref pl] ∧ PAt H p a ∧ pcnt p ≤ n + 1 ∧ pcnt p ≤ 1000 ∧ H pl = some (.tup pre) ∧ pre.length + n ≤ 2000 ∧ ∀ r H' us, H r = none → Same H H' → H' r = some (.lst us) → All2 (EntV PAt H' pre) (allP p) us → Q (.ref r) H'
abbrev s_law_all : Stmt := top 28
theorem scLall : FnScope ["part", "place", "found", "number", "one"] ["part", "place"] (defScope s_law_all) := ⟨rfl, rfl, rfl, by decide +kernel, rfl, by decide +kernel, by decide +kernel⟩
theorem ok_lall (n : Nat) {f f1 : Addr} {fd d1 : FuncData} (F : Fun K "_law_all" "_law_all" s_law_all f fd) (G_law_kids : FnOk P w K mg base CX0 1 f1 d1 ["part"] spLKids) (R_law_kids : Ref K mg "_law_kids" f1 d1 ["part"])
    (G_law_all : FnOk P w K mg base CX0 (n + 1) f fd ["part", "place"] (spLAll n)) (R_law_all : Ref K mg "_law_all" f fd ["part", "place"]) : FnOk P w K mg base CX0 (n + 2) f fd ["part", "place"] (spLAll (n + 1)) := by
  refine F.ok scLall (fun vs H Q E h => ?_) (fun cdv A outer s H vs Q E hr h => ?_)
  · obtain ⟨a, pl, p, pre, rfl, _⟩ := h
    rfl
  obtain ⟨a, pl, p, pre, rfl, hA, hn, hk, hpl, hpr, q⟩ := h
  refine ⟨_, (pss_cons (ps_set (i := 2) scLall.nd rfl (Or.inl rfl) (pe_lst (pa_cons (pe_tup (pa_cons (pv 1) (pa_cons (pv 0) pa_nil))) pa_nil)))
    (pss_cons (ps_for PassesOwn.never rfl (pi_list (pe_call G_law_kids (hr.mono (by omega)) rfl R_law_kids.m R_law_kids.k R_law_kids.b .nil pass0 (pa_cons (pv 0) pa_nil))) (pg_tup rfl (pgs_cons (pg_name (i := 3) scLall.nd rfl (Or.inl rfl)) (pgs_cons (pg_name (i := 4) scLall.nd rfl (Or.inl rfl)) pgs_nil))) (pss_one (ps_set (i := 2) scLall.nd rfl (Or.inl rfl) (pe_op op_cat (pv 2) (pe_call G_law_all (hr.mono (by omega)) rfl R_law_all.m R_law_all.k R_law_all.b .nil pass0 (pa_cons (pv 4) (pa_cons (pe_op op_catA (pv 1) (pe_tup (pa_cons (pv 3) pa_nil))) pa_nil)))))))
    (pss_one (ps_ret (pv 2))))), ?_⟩
  refine ⟨_, rfl, _, rfl, sz (by show 2 ≤ 100000; decide), fun t0 ht0 => ?_⟩
  have s1 := same_new ht0 (.tup [.ref pl, .ref a])
  refine ⟨sz (by show 1 ≤ 100000; decide), fun fl0 hfl0 => ?_⟩
  have s2 := same_new hfl0 (.lst [.ref t0])
  have s12 := s1.trans s2
  refine ⟨_, rfl, a, p, rfl, hA.tk (tk_same s12), fun kl H1 ks hkl s3 hk1 kk1 => ?_⟩
  have s13 := s12.trans s3
  have hlk := kk1.len
  refine ⟨kl, rfl, ⟨_, SqL.of hk1⟩, for_list (K := K) (a := kl) (xs := ks) (fun i σ H' => ∃ fl fv o3 o4, σ = [some (.ref a), some (.ref pl), some (.ref fl), o3, o4] ∧ H fl = none ∧ Same H1 H' ∧ H' fl = some (.lst fv) ∧ All2 (EntV PAt H' pre) (([], p) :: allK ((lkids p).take i)) fv) ?_ ?_ ?_ ?_⟩
  · refine ⟨fl0, [.ref t0], none, none, rfl, s1.free hfl0, Same.refl _, s3 _ _ upd_same, ?_⟩
    rw [List.take_zero]
    refine ⟨⟨t0, pl, a, rfl, s3 _ _ (s2 _ _ upd_same), ?_, hA.tk (tk_same s13)⟩, trivial⟩
    rw [List.map_nil, List.append_nil]
    exact s13 _ _ hpl
  · rintro i σ H' _ ⟨fl, fv, o3, o4, rfl, _, s4, _⟩
    exact SqL.of (s4 _ _ hk1)
  · rintro i x σ H2 hx ⟨fl, fv, o3, o4, rfl, hf0, s4, hf, kf⟩
    obtain ⟨k, hk', qa, b, rfl, g1, g2⟩ := kk1.get hx
    have hkm := mem_of_get hk'
    have hkc := lk_cnt hkm
    refine ⟨qa, _, rfl, SqT.of (s4 _ _ g1), rfl, _, _, rfl, _, _, rfl, rfl, ?_⟩
    have sH2 := s13.trans s4
    refine ⟨_, rfl, _, rfl, _, rfl, _, rfl, sz (by show 1 ≤ 100000; decide), fun t1 ht1 => ?_⟩
    have s5 := same_new ht1 (.tup [.int k.1])
    refine catA_of (s5 _ _ (sH2 _ _ hpl)) upd_same (by show pre.length + 1 ≤ 100000; omega) fun t2 H3 s6 g3 => ?_
    have s56 := s5.trans s6
    cases n with
    | zero => have := pc_pos k.2; omega
    | succ n =>
      refine ⟨b, t2, k.2, _, rfl, (g2.tk (tk_same s4)).tk (tk_same s56), by omega, by omega, g3, by rw [List.length_append, List.length_singleton]; omega, fun r H4 us hr4 s7 g4 k4 => ?_⟩
      have s57 := s56.trans s7
      have e1 := kf.len
      have e2 := k4.len
      rw [allP_len] at e2
      have e3 : (([], p) :: allK ((lkids p).take i)).length ≤ 1000 := by
        rw [List.length_cons, allK_len]
        have := kcnt_take (lkids p) i
        have := kcnt_lk p
        omega
      refine ⟨fl, r, _, _, rfl, rfl, s57 _ _ hf, g4, sz (by omega), fun p5 hp5 => ?_⟩
      have s8 := same_new hp5 (.lst (fv ++ us))
      refine ⟨p5, fv ++ us, _, _, rfl, ?_, s4.trans (s57.trans s8), upd_same, ?_⟩
      · exact (sH2.trans s57).free hp5
      · rw [allK_take hk']
        exact All2.app (as := ([], p) :: allK ((lkids p).take i)) (kf.imp fun _ _ z => EntV.tkP (tk_same (s57.trans s8)) z) (All2.map (f := fun (e : List Int × Pt) => (k.1 :: e.1, e.2)) (k4.imp fun _ _ z => EntV.tkP (tk_same s8) (EntV.deep z)))
  · rintro σ H2 ⟨fl, fv, o3, o4, rfl, hf0, s4, hf, kf⟩
    refine ⟨_, rfl, ?_⟩
    rw [hlk, List.take_length, ← allP_mk] at kf
    exact q fl H2 fv hf0 (s13.trans s4) hf kf
theorem all_lall {f f1 : Addr} {fd d1 : FuncData} (F : Fun K "_law_all" "_law_all" s_law_all f fd) (G_law_kids : FnOk P w K mg base CX0 1 f1 d1 ["part"] spLKids) (R_law_kids : Ref K mg "_law_kids" f1 d1 ["part"]) (R_law_all : Ref K mg "_law_all" f fd ["part", "place"]) : ∀ n : Nat, FnOk P w K mg base CX0 (n + 1) f fd ["part", "place"] (spLAll n)
  | 0 => no_sp
  | n + 1 => ok_lall n F G_law_kids R_law_kids (all_lall F G_law_kids R_law_kids R_law_all n) R_law_all
/-! ### _law_all_of -/
def EnS (H : Hp) (x : Str × List Int × Pt) (v : V) : Prop := EntV PAt H [.str x.1] x.2 v
def allOf (es : List TEr) : List (Str × List Int × Pt) := (es.map fun e => (allP e.2.2).map fun x => (e.1, x)).flatten
theorem allOf_take {es : List TEr} {i : Nat} {e : TEr} (h : es[i]? = some e) : allOf (es.take (i + 1)) = allOf (es.take i) ++ (allP e.2.2).map fun x => (e.1, x) := by
  obtain ⟨hi, he⟩ := List.getElem?_eq_some_iff.mp h
  unfold allOf
  rw [List.take_succ_eq_append_getElem hi, List.map_append, List.flatten_append, he]
  simp
theorem allOf_len {es : List TEr} (hc : ∀ e ∈ es, pcnt e.2.2 ≤ 220) : (allOf es).length ≤ 220 * es.length := by
  induction es with
  | nil => exact Nat.zero_le _
  | cons e r ih =>
    have h1 := ih fun x hx => hc x (List.mem_cons_of_mem _ hx)
    have h2 := hc e List.mem_cons_self
    have h3 : allOf (e :: r) = (allP e.2.2).map (fun x => (e.1, x)) ++ allOf r := rfl
    rw [h3, List.length_append, List.length_cons, List.length_map, allP_len]
    omega
def spLAllOf : Sp := fun vs H Q _ => ∃ (p : Addr) (es : List TEr) (us : List V), vs = [.ref p] ∧ TBkAt H es us p ∧ es.length ≤ 6 ∧ (∀ e ∈ es, pcnt e.2.2 ≤ 220) ∧
  ∀ r H' its, H r = none → Same H H' → H' r = some (.lst its) → All2 (EnS H') (allOf es) its → Q (.ref r) H'
abbrev s_law_all_of : Stmt := top 29
theorem scLall_of : FnScope ["turned", "found", "name", "names", "body"] ["turned"] (defScope s_law_all_of) := ⟨rfl, rfl, rfl, by decide +kernel, rfl, by decide +kernel, by decide +kernel⟩
theorem ok_lallof {f f1 : Addr} {fd d1 : FuncData} (F : Fun K "_law_all_of" "_law_all_of" s_law_all_of f fd) (G_law_all : FnOk P w K mg base CX0 221 f1 d1 ["part", "place"] (spLAll 220)) (R_law_all : Ref K mg "_law_all" f1 d1 ["part", "place"]) : FnOk P w K mg base CX0 222 f fd ["turned"] spLAllOf := by
  refine F.ok scLall_of (fun vs H Q E h => ?_) (fun cdv A outer s H vs Q E hr h => ?_)
  · obtain ⟨p, es, us, rfl, _⟩ := h
    rfl
  obtain ⟨p, es, us, rfl, hB, hl6, hc, q⟩ := h
  refine ⟨_, (pss_cons (ps_set (i := 1) scLall_of.nd rfl (Or.inl rfl) (pe_lst pa_nil))
    (pss_cons (ps_for PassesOwn.never rfl (pi_tup (pv 0)) (pg_tup rfl (pgs_cons (pg_name (i := 2) scLall_of.nd rfl (Or.inl rfl)) (pgs_cons (pg_name (i := 3) scLall_of.nd rfl (Or.inl rfl)) (pgs_cons (pg_name (i := 4) scLall_of.nd rfl (Or.inl rfl)) pgs_nil)))) (pss_one (ps_set (i := 1) scLall_of.nd rfl (Or.inl rfl) (pe_op op_cat (pv 1) (pe_call G_law_all (hr.mono (by omega)) rfl R_law_all.m R_law_all.k R_law_all.b .nil pass0 (pa_cons (pv 4) (pa_cons (pe_tup (pa_cons (pv 2) pa_nil)) pa_nil)))))))
    (pss_one (ps_ret (pv 1))))), ?_⟩
  refine ⟨sz (by show 0 ≤ 100000; decide), fun fl0 hfl0 => ?_⟩
  have s0 := same_new hfl0 (.lst [])
  refine ⟨_, rfl, p, rfl, ⟨_, SqT.of (s0 _ _ hB.1)⟩, for_tup (xs := us) (fun i σ H' => ∃ fl o1 o2 o3 its, σ = [some (.ref p), some (.ref fl), o1, o2, o3] ∧ H fl = none ∧ Same H H' ∧ H' fl = some (.lst its) ∧ All2 (EnS H') (allOf (es.take i)) its) ?_ ?_ ?_ ?_⟩
  · refine ⟨fl0, _, _, _, [], rfl, hfl0, s0, upd_same, ?_⟩
    rw [List.take_zero]
    exact trivial
  · rintro i σ H' _ ⟨fl, o1, o2, o3, its, rfl, _, s1, h1, k1⟩
    exact SqT.of (s1 _ _ hB.1)
  · rintro i x σ H1 hx ⟨fl, o1, o2, o3, its, rfl, hf0, s1, h1, k1⟩
    obtain ⟨e, he, qa, r, b, rfl, g1, g2, g3⟩ := hB.2.get hx
    have hee := mem_of_get he
    have he2 := hc e hee
    refine ⟨qa, _, rfl, SqT.of (s1 _ _ g1), rfl, _, _, rfl, _, _, rfl, _, _, rfl, rfl, ?_⟩
    refine ⟨_, rfl, _, rfl, _, rfl, sz (by show 1 ≤ 100000; decide), fun t1 ht1 => ?_⟩
    have s2 := same_new ht1 (.tup [.str e.1])
    refine ⟨b, t1, e.2.2, [.str e.1], rfl, (g3.tk (tk_same s1)).tk (tk_same s2), he2, by omega, upd_same, by show 1 + 219 ≤ 2000; omega, fun r2 H3 ps hr2 s3 h3 k3 => ?_⟩
    have s23 := s2.trans s3
    have e1 := k1.len
    have e2 := k3.len
    have e3 := allOf_len (es := es.take i) fun x hx => hc x (List.mem_of_mem_take hx)
    have e4 : (es.take i).length ≤ es.length := by
      rw [List.length_take]
      omega
    rw [allP_len] at e2
    refine ⟨fl, r2, _, _, rfl, rfl, s23 _ _ h1, h3, sz (by omega), fun p5 hp5 => ?_⟩
    have s5 := same_new hp5 (.lst (its ++ ps))
    refine ⟨p5, _, _, _, its ++ ps, rfl, (s1.trans s23).free hp5, s1.trans (s23.trans s5), upd_same, ?_⟩
    rw [allOf_take he]
    exact (k1.imp fun _ _ z => EntV.tkP (tk_same (s23.trans s5)) z).app (All2.map (f := fun (x : List Int × Pt) => (e.1, x)) (k3.imp fun _ _ z => EntV.tkP (tk_same s5) z))
  · rintro σ H1 ⟨fl, o1, o2, o3, its, rfl, hf0, s1, h1, k1⟩
    refine ⟨_, rfl, ?_⟩
    rw [hB.2.len, List.take_length] at k1
    exact q _ _ _ hf0 s1 h1 k1
end
end KB
namespace KB
open PySem L2 HT

theorem shaped_ints (ks : List Int) : SeqAt.shaped (.tuple (ks.map PyData.int)) = true := by
  refine shaped_of (layAll fun d hd => ?_) ?_
  · obtain ⟨k, _, rfl⟩ := List.mem_map.mp hd
    rfl
  · have : (PyData.tuple (ks.map PyData.int)).depth ≤ 0 + 1 := depth_tup fun d hd => by
      obtain ⟨k, _, rfl⟩ := List.mem_map.mp hd
      exact Nat.le_refl 0
    omega
theorem shaped_nil : SeqAt.shaped (.tuple []) = true := rfl
theorem eqv_nilI (ks : List Int) : PyData.eqv (.tuple (ks.map PyData.int)) (.tuple []) = ks.isEmpty := by cases ks <;> rfl
theorem allP_in {p u : Pt} {k : Int} {ks : List Int} (h : (k :: ks, u) ∈ allP p) : ∃ p', (k, p') ∈ lkids p ∧ (ks, u) ∈ allP p' := by
  rw [allP_mk] at h
  rcases List.mem_cons.mp h with z | z
  · cases z
  · obtain ⟨l, hl, hm⟩ := List.mem_flatten.mp z
    obtain ⟨kid, hk, rfl⟩ := List.mem_map.mp hl
    obtain ⟨e, he, e2⟩ := List.mem_map.mp hm
    cases e2
    exact ⟨kid.2, hk, he⟩
theorem lk_kP {p : Pt} (h : kP p) {k : Int × Pt} (m : k ∈ lkids p) : kP k.2 := by
  cases p with
  | give j t => cases m
  | ask f ts j => cases m
  | tell x t p => rw [List.mem_singleton.mp m]; exact h.2.2
  | lett x t p => rw [List.mem_singleton.mp m]; exact h.2.2
  | iff t p q =>
    rcases List.mem_cons.mp m with z | z
    · rw [z]; exact h.2.1
    · rw [List.mem_singleton.mp z]; exact h.2.2
  | post j x p q =>
    rcases List.mem_cons.mp m with z | z
    · rw [z]; exact h.2.2.1
    · rw [List.mem_singleton.mp z]; exact h.2.2.2
theorem kid_one {K : PySem.W.Frag} {H : Hp} {n : Int} {p : Pt} {us : List V} (h : All2 (KidV H) [(n, p)] us) : ∃ ps kvs b, us = ps.map V.ref ∧ PySem.Paired (fun p kv => SqT K H p [kV kv.1, kv.2]) ps kvs ∧ valV (mergeK [] kvs) (Sum.inl n) = some (.ref b) ∧ PAt H p b := by
  match us, h with
  | [_], ⟨⟨q, b, rfl, h1, h2⟩, _⟩ => exact ⟨[q], [(Sum.inl n, .ref b)], b, rfl, .cons (SqT.of h1) .nil, by show valV [((Sum.inl n : Key), V.ref b)] _ = _; exact valV_pos rfl, h2⟩
theorem kid_two {K : PySem.W.Frag} {H : Hp} {n m : Int} (hn : n ≠ m) {p p2 : Pt} {us : List V} (h : All2 (KidV H) [(n, p), (m, p2)] us) : ∃ ps kvs b c, us = ps.map V.ref ∧ PySem.Paired (fun p kv => SqT K H p [kV kv.1, kv.2]) ps kvs ∧ valV (mergeK [] kvs) (Sum.inl n) = some (.ref b) ∧ valV (mergeK [] kvs) (Sum.inl m) = some (.ref c) ∧ PAt H p b ∧ PAt H p2 c := by
  match us, h with
  | [_, _], ⟨⟨q, b, rfl, h1, h2⟩, ⟨q2, c, rfl, h3, h4⟩, _⟩ =>
    have e : mergeK [] [((Sum.inl n : Key), V.ref b), (Sum.inl m, .ref c)] = putK [((Sum.inl n : Key), V.ref b)] (Sum.inl m) (.ref c) := rfl
    refine ⟨[q, q2], [(Sum.inl n, .ref b), (Sum.inl m, .ref c)], b, c, rfl, .cons (SqT.of h1) (.cons (SqT.of h3) .nil), ?_, ?_, h2, h4⟩
    · rw [e, valV_put, if_neg (fun z => hn (Sum.inl.inj z))]
      exact valV_pos rfl
    · rw [e, valV_put, if_pos rfl]
theorem kid_get {K : PySem.W.Frag} {H : Hp} {p u : Pt} {k : Int} {us : List V} (h : All2 (KidV H) (lkids p) us) (m : (k, u) ∈ lkids p) : ∃ ps kvs b, us = ps.map V.ref ∧ PySem.Paired (fun p kv => SqT K H p [kV kv.1, kv.2]) ps kvs ∧ valV (mergeK [] kvs) (Sum.inl k) = some (.ref b) ∧ PAt H u b := by
  cases p with
  | give j t => cases m
  | ask f ts j => cases m
  | tell x t p => cases List.mem_singleton.mp m; exact kid_one h
  | lett x t p => cases List.mem_singleton.mp m; exact kid_one h
  | iff t p q =>
    obtain ⟨ps, kvs, b, c, e1, e2, e3, e4, e5, e6⟩ := kid_two (K := K) (by decide) h
    rcases List.mem_cons.mp m with z | z
    · cases z; exact ⟨ps, kvs, b, e1, e2, e3, e5⟩
    · cases List.mem_singleton.mp z; exact ⟨ps, kvs, c, e1, e2, e4, e6⟩
  | post j x p q =>
    obtain ⟨ps, kvs, b, c, e1, e2, e3, e4, e5, e6⟩ := kid_two (K := K) (by decide) h
    rcases List.mem_cons.mp m with z | z
    · cases z; exact ⟨ps, kvs, b, e1, e2, e3, e5⟩
    · cases List.mem_singleton.mp z; exact ⟨ps, kvs, c, e1, e2, e4, e6⟩
theorem hsP_post {p : Pt} (h : hsP p = "post") : ∃ j x q r, p = .post j x q r := by
  cases p <;> dsimp only [hsP] at h <;> first | exact ⟨_, _, _, _, rfl⟩ | exact absurd h (by decide)
/-- hand-ons' words -/
def Hds (H : Hp) (a : Addr) (hs : List Str) : Prop := H a = some (.lst (hs.map V.str)) ∧ ∀ j ∈ hs, PySem.PyData.strOk j = true
theorem Hds.mono {H H' : Hp} (e : Same H H') {a : Addr} {hs : List Str} (h : Hds H a hs) : Hds H' a hs := ⟨e _ _ h.1, h.2⟩
theorem slA_of {K : PySem.W.Frag} {H : Hp} {a : Addr} {xs : List V} {lo hi : Option Int} {Q : VK} (ha : H a = some (.tup xs))
    (q : ∀ p H', Same H H' → H' p = some (.tup (cutV xs lo hi)) → Q (.ref p) H') : rSlA K (.ref a) lo hi H Q := by
  refine ⟨a, xs, rfl, SqT.of ha, fun z => q a H (Same.refl H) ?_, fun _ p hp => q p _ (same_new hp _) upd_same⟩
  have e : cutV xs lo hi = xs := by
    unfold cutV
    rw [z.1, z.2, List.drop_zero, Nat.sub_zero, List.take_length]
  rw [e]
  exact ha

section
variable {P : Program} {w : World} {K : PySem.W.Frag} {mg : Str → Option Value} {base : Heap}
/-! ### _law_around -/
def spLAr : Nat → Sp
  | 0 => fun _ _ _ _ => False
  | n + 1 => fun vs H Q _ => ∃ (a nb hl : Addr) (p u : Pt) (ks : List Int) (hs : List Str), vs = [.ref a, .ref nb, .ref hl] ∧ PAt H p a ∧ kP p ∧ (ks, u) ∈ allP p ∧ ks.length ≤ n ∧ H nb = some (.tup (ks.map V.int)) ∧ Hds H hl hs ∧ hs ≠ [] ∧ hs.length + n ≤ 200 ∧
    ∀ r H' b hl' hs', Same H H' → H' r = some (.tup [.ref b, .ref hl']) → Hds H' hl' hs' → hs' ≠ [] → hs'.length ≤ 200 → Q (.ref r) H'
abbrev s_law_around : Stmt := top 35
theorem scLaround : FnScope ["part", "numbers", "hands"] ["part", "numbers", "hands"] (defScope s_law_around) := ⟨rfl, rfl, rfl, by decide +kernel, rfl, by decide +kernel, by decide +kernel⟩
theorem ok_lar (n : Nat) (mdi : mg "dict" = none) {f f1 : Addr} {fd d1 : FuncData} (F : Fun K "_law_around" "_law_around" s_law_around f fd) (G_law_kids : FnOk P w K mg base CX0 1 f1 d1 ["part"] spLKids) (R_law_kids : Ref K mg "_law_kids" f1 d1 ["part"])
    (G_law_around : FnOk P w K mg base CX0 (n + 1) f fd ["part", "numbers", "hands"] (spLAr n)) (R_law_around : Ref K mg "_law_around" f fd ["part", "numbers", "hands"]) : FnOk P w K mg base CX0 (n + 2) f fd ["part", "numbers", "hands"] (spLAr (n + 1)) := by
  refine F.ok scLaround (fun vs H Q E h => ?_) (fun cdv A outer s H vs Q E hr h => ?_)
  · obtain ⟨a, nb, hl, p, u, ks, hs, rfl, _⟩ := h
    rfl
  obtain ⟨a, nb, hl, p, u, ks, hs, rfl, hA, hkp, hm, hn, hnb, hh, hh0, hhl, q⟩ := h
  refine ⟨_, (pss_cons (ps_if (pt_cmpR (op_eqD hr.units) (pv 1) (pe_tup pa_nil) (nomark _)) (pss_one (ps_ret (pe_tup (pa_cons (pv 0) (pa_cons (pv 2) pa_nil))))) pss_nil)
    (Evl.pss_cut (ps_if (PW.pt (pw_and (pt_cmpR op_eq (pe_ix ix_tup (pv 0) pe_int (fun _ _ => rfl)) pe_str (nomark _)) (pw_and1 (pt_cmpR op_eq (pe_ix ix_tup (pv 1) pe_int (fun _ _ => rfl)) pe_int (nomark _))))) (pss_one (ps_set (i := 2) scLaround.nd rfl (Or.inl rfl) (pe_op op_cat (pv 2) (pe_lst (pa_cons (pe_ix ix_tup (pv 0) pe_int (fun _ _ => rfl)) pa_nil))))) pss_nil)
    (pss_one (ps_ret (pe_call G_law_around (hr.mono (by omega)) rfl R_law_around.m R_law_around.k R_law_around.b .nil pass0 (pa_cons (pe_dget (hu_of hr) (pe_callTy (call_dictP rfl) (by rfl) mdi (by decide +kernel) (pa_cons (pe_call G_law_kids (hr.mono (by omega)) rfl R_law_kids.m R_law_kids.k R_law_kids.b .nil pass0 (pa_cons (pv 0) pa_nil)) pa_nil)) (pe_ix ix_tup (pv 1) pe_int (fun _ _ => rfl)) (fun _ _ => rfl)) (pa_cons (pe_slice sl_tupA (pv 1) (po_some pe_int) po_none) (pa_cons (pv 2) pa_nil)))))))), ?_⟩
  refine ⟨_, rfl, sz (by show 0 ≤ 100000; decide), fun t0 ht0 => ?_⟩
  have s0 := same_new ht0 (.tup [])
  refine ⟨.tuple (ks.map PyData.int), .tuple [], .tup (SqT.of (s0 _ _ hnb)) (dp_ints ks), .tup (SqT.of upd_same) .nil, shaped_ints ks, shaped_nil, _, rfl, ?_⟩
  rw [eqv_nilI]
  generalize upd H t0 (.tup []) = H0 at s0
  have hA0 := hA.tk (tk_same s0)
  have hnb0 := s0 _ _ hnb
  have hh1 := hh.mono s0
  cases ks with
  | nil =>
    refine itT rfl ⟨_, rfl, _, rfl, sz (by show 2 ≤ 100000; decide), fun r hr1 => ?_⟩
    have s1 := same_new hr1 (.tup [.ref a, .ref hl])
    exact q r _ a hl hs (s0.trans s1) upd_same (hh1.mono s1) hh0 (by omega)
  | cons k ks =>
    refine itF rfl ⟨fun σ' H' => ∃ hl' hs', σ' = [some (.ref a), some (.ref nb), some (.ref hl')] ∧ Same H0 H' ∧ Hds H' hl' hs' ∧ hs' ≠ [] ∧ hs'.length ≤ hs.length + 1, ?_, ?_⟩
    · obtain ⟨r0, hd⟩ := hA0.head
      refine ⟨_, rfl, a, _, _, _, rfl, rfl, SqT.of hd, at0, rfl, _, rfl, ?_⟩
      refine ite2 (fun c => ?_) (fun c => iteF ⟨hl, hs, rfl, Same.refl _, hh1, hh0, by omega⟩)
      obtain ⟨j, x, p1, p2, rfl⟩ := hsP_post (V.str.inj (of_decide_eq_true c))
      refine ⟨_, rfl, nb, _, _, _, rfl, rfl, SqT.of hnb0, at0, rfl, _, rfl, ?_⟩
      refine ite2 (fun c2 => ?_) (fun c2 => ⟨hl, hs, rfl, Same.refl _, hh1, hh0, by omega⟩)
      obtain ⟨ca, da, h1, h2, h3⟩ := hA0
      refine ⟨_, rfl, _, rfl, a, _, _, _, rfl, rfl, SqT.of h1, at1, sz (by show 1 ≤ 100000; decide), fun t1 ht1 => ?_⟩
      have s1 := same_new ht1 (.lst [.str j])
      refine ⟨hl, t1, _, _, rfl, rfl, s1 _ _ hh1.1, upd_same, sz (by rw [List.length_map, List.length_singleton]; omega), fun t2 ht2 => ?_⟩
      have s2 := same_new ht2 (.lst (hs.map V.str ++ [.str j]))
      refine ⟨t2, hs ++ [j], rfl, s1.trans s2, ⟨?_, fun y hy => ?_⟩, by simp, by rw [List.length_append, List.length_singleton]; omega⟩
      · rw [upd_same, List.map_append]
        rfl
      · rcases List.mem_append.mp hy with z | z
        · exact hh.2 y z
        · rw [List.mem_singleton.mp z]
          exact isW_ok hkp.1
    · rintro σ' H1 ⟨hl', hs', rfl, s1, hh2, hh3, hh4⟩
      obtain ⟨p', hp', hu'⟩ := allP_in hm
      refine ⟨_, rfl, a, p, rfl, hA0.tk (tk_same s1), fun kl H2 us hkl s2 hk2 kk2 => ?_⟩
      obtain ⟨ps, kvs, b, rfl, e2, e3, e4⟩ := kid_get (K := K) kk2 hp'
      refine ⟨kl, ps, kvs, rfl, SqL.of hk2, e2, fun d hd => ?_⟩
      have s3 := same_new hd (.dK (mergeK [] kvs))
      have s23 := s1.trans (s2.trans s3)
      have hg : DGet (upd H2 d (.dK (mergeK [] kvs))) d (.int k) (some (.ref b)) := by
        have := DGet.k (k := Sum.inl k) (upd_same (H := H2) (a := d) (o := .dK (mergeK [] kvs)))
        rw [e3] at this
        exact this
      refine ⟨_, rfl, nb, _, _, _, rfl, rfl, SqT.of (s23 _ _ hnb0), at0, d, _, rfl, hg, ?_⟩
      refine ⟨_, rfl, _, rfl, ?_⟩
      dsimp only [tNoPart]
      refine slA_of (K := K) (lo := some 1) (hi := none) (s23 _ _ hnb0) fun nb' H3 s4 h4 => ?_
      have e5 : cutV ((k :: ks).map V.int) (some 1) none = ks.map V.int := cut1
      rw [e5] at h4
      have s34 := s23.trans s4
      refine ⟨_, rfl, ?_⟩
      cases n with
      | zero => exact absurd hn (by simp)
      | succ n =>
        refine ⟨b, nb', hl', p', u, ks, hs', rfl, (e4.tk (tk_same s3)).tk (tk_same s4), lk_kP hkp hp', hu', by simpa using hn, h4, hh2.mono ((s2.trans s3).trans s4), hh3, by omega, fun r H' b' hl2 hs2 s5 h5 h6 h7 h8 => ?_⟩
        exact q r H' b' hl2 hs2 (s0.trans (s34.trans s5)) h5 h6 h7 h8
theorem all_lar (mdi : mg "dict" = none) {f f1 : Addr} {fd d1 : FuncData} (F : Fun K "_law_around" "_law_around" s_law_around f fd) (G_law_kids : FnOk P w K mg base CX0 1 f1 d1 ["part"] spLKids) (R_law_kids : Ref K mg "_law_kids" f1 d1 ["part"]) (R_law_around : Ref K mg "_law_around" f fd ["part", "numbers", "hands"]) : ∀ n : Nat, FnOk P w K mg base CX0 (n + 1) f fd ["part", "numbers", "hands"] (spLAr n)
  | 0 => no_sp
  | n + 1 => ok_lar n mdi F G_law_kids R_law_kids (all_lar mdi F G_law_kids R_law_kids R_law_around n) R_law_around
end
end KB

namespace KB
open PySem L2 HT

/-! ### a part with another one put in -/
def putP (o : Pt) : Pt → List Int → Pt
  | _, [] => o
  | .give j t, _ :: _ => .give j t
  | .ask f ts j, _ :: _ => .ask f ts j
  | .tell x t p, k :: ks => .tell x t (if (1 : Int) = k then putP o p ks else p)
  | .lett x t p, k :: ks => .lett x t (if (1 : Int) = k then putP o p ks else p)
  | .iff t p q, k :: ks => .iff t (if (1 : Int) = k then putP o p ks else p) (if (2 : Int) = k then putP o q ks else q)
  | .post j x p q, k :: ks => .post j x (if (0 : Int) = k then putP o p ks else p) (if (1 : Int) = k then putP o q ks else q)
def newK (o : Pt) (k : Int) (ks : List Int) (kid : Int × Pt) : Pt := if kid.1 = k then putP o kid.2 ks else kid.2
def reb : Pt → List Pt → Pt
  | .tell x t _, [p] => .tell x t p
  | .lett x t _, [p] => .lett x t p
  | .iff t _ _, [p, q] => .iff t p q
  | .post j x _ _, [p, q] => .post j x p q
  | p, _ => p
theorem putP_reb (o : Pt) (p : Pt) (k : Int) (ks : List Int) : putP o p (k :: ks) = reb p ((lkids p).map (newK o k ks)) := by cases p <;> rfl
theorem kP_ite {c : Prop} [Decidable c] {a b : Pt} (h1 : kP a) (h2 : kP b) : kP (if c then a else b) := by split <;> assumption
theorem putP_kP {o : Pt} (ho : kP o) : ∀ {p : Pt} {ks : List Int}, kP p → kP (putP o p ks)
  | p, [], _ => by cases p <;> exact ho
  | .give j t, _ :: _, h => h
  | .ask f ts j, _ :: _, h => h
  | .tell x t p, k :: ks, h => ⟨h.1, h.2.1, kP_ite (putP_kP ho h.2.2) (h.2.2)⟩
  | .lett x t p, k :: ks, h => ⟨h.1, h.2.1, kP_ite (putP_kP ho h.2.2) (h.2.2)⟩
  | .iff t p q, k :: ks, h => ⟨h.1, kP_ite (putP_kP ho h.2.1) (h.2.1), kP_ite (putP_kP ho h.2.2) (h.2.2)⟩
  | .post j x p q, k :: ks, h => ⟨h.1, h.2.1, kP_ite (putP_kP ho h.2.2.1) (h.2.2.1), kP_ite (putP_kP ho h.2.2.2) (h.2.2.2)⟩
theorem putP_cnt {o : Pt} : ∀ {p : Pt} {ks : List Int}, pcnt (putP o p ks) ≤ pcnt p + pcnt o
  | p, [] => by cases p <;> exact Nat.le_add_left _ _
  | .give j t, _ :: _ => Nat.le_add_right _ _
  | .ask f ts j, _ :: _ => Nat.le_add_right _ _
  | .tell x t p, k :: ks => by
    have := putP_cnt (o := o) (p := p) (ks := ks)
    show 1 + pcnt (if (1 : Int) = k then putP o p ks else p) ≤ 1 + pcnt p + pcnt o
    split <;> omega
  | .lett x t p, k :: ks => by
    have := putP_cnt (o := o) (p := p) (ks := ks)
    show 1 + pcnt (if (1 : Int) = k then putP o p ks else p) ≤ 1 + pcnt p + pcnt o
    split <;> omega
  | .iff t p q, k :: ks => by
    have := putP_cnt (o := o) (p := p) (ks := ks)
    have := putP_cnt (o := o) (p := q) (ks := ks)
    show 1 + pcnt (if (1 : Int) = k then putP o p ks else p) + pcnt (if (2 : Int) = k then putP o q ks else q) ≤ 1 + pcnt p + pcnt q + pcnt o
    by_cases c : (1 : Int) = k
    · rw [if_pos c, if_neg (by omega)]; omega
    · rw [if_neg c]; split <;> omega
  | .post j x p q, k :: ks => by
    have := putP_cnt (o := o) (p := p) (ks := ks)
    have := putP_cnt (o := o) (p := q) (ks := ks)
    show 1 + pcnt (if (0 : Int) = k then putP o p ks else p) + pcnt (if (1 : Int) = k then putP o q ks else q) ≤ 1 + pcnt p + pcnt q + pcnt o
    by_cases c : (0 : Int) = k
    · rw [if_pos c, if_neg (by omega)]; omega
    · rw [if_neg c]; split <;> omega
def PV (H : Hp) (p : Pt) (v : V) : Prop := ∃ b, v = .ref b ∧ PAt H p b
theorem PV.tk {H H' : Hp} (e : TK H H') {p : Pt} {v : V} (h : PV H p v) : PV H' p v := let ⟨b, e1, h1⟩ := h; ⟨b, e1, h1.tk e⟩
theorem reb_at {H : Hp} {p : Pt} {a : Addr} {g : Int × Pt → Pt} {vs : List V} (hA : PAt H p a) (h : All2 (PV H) ((lkids p).map g) vs) : ∃ xs, H a = some (.tup xs) ∧ xs.length ≤ 5 ∧ vs.length ≤ xs.length ∧
    ∀ {H' : Hp} {r : Addr}, TK H H' → H' r = some (.tup (xs.take (xs.length - vs.length) ++ vs)) → PAt H' (reb p ((lkids p).map g)) r := by
  cases p with
  | give j t =>
    obtain ⟨b, h1, h2⟩ := hA
    match vs, h with
    | [], _ => exact ⟨_, h1, by simp, by simp, fun tk hr => ⟨b, hr, h2.tk tk⟩⟩
  | ask f ts j =>
    obtain ⟨b, us, h1, h2, h3⟩ := hA
    match vs, h with
    | [], _ => exact ⟨_, h1, by simp, by simp, fun tk hr => ⟨b, us, hr, tk _ _ h2, h3.imp fun _ _ z => z.tk tk⟩⟩
  | tell x t p =>
    obtain ⟨b, c, h1, h2, h3⟩ := hA
    match vs, h with
    | [_], ⟨⟨d, rfl, hd⟩, _⟩ => exact ⟨_, h1, by simp, by simp, fun tk hr => ⟨b, d, hr, h2.tk tk, hd.tk tk⟩⟩
  | lett x t p =>
    obtain ⟨b, c, h1, h2, h3⟩ := hA
    match vs, h with
    | [_], ⟨⟨d, rfl, hd⟩, _⟩ => exact ⟨_, h1, by simp, by simp, fun tk hr => ⟨b, d, hr, h2.tk tk, hd.tk tk⟩⟩
  | iff t p q =>
    obtain ⟨b, c, d, h1, h2, h3, h4⟩ := hA
    match vs, h with
    | [_, _], ⟨⟨d1, rfl, hd1⟩, ⟨d2, rfl, hd2⟩, _⟩ => exact ⟨_, h1, by simp, by simp, fun tk hr => ⟨b, d1, d2, hr, h2.tk tk, hd1.tk tk, hd2.tk tk⟩⟩
  | post j x p q =>
    obtain ⟨c, d, h1, h2, h3⟩ := hA
    match vs, h with
    | [_, _], ⟨⟨d1, rfl, hd1⟩, ⟨d2, rfl, hd2⟩, _⟩ => exact ⟨_, h1, by simp, by simp, fun tk hr => ⟨d1, d2, hr, hd1.tk tk, hd2.tk tk⟩⟩
section
variable {P : Program} {w : World} {K : PySem.W.Frag} {mg : Str → Option Value} {base : Heap}
/-! ### _law_put -/
def spLPut : Nat → Sp
  | 0 => fun _ _ _ _ => False
  | n + 1 => fun vs H Q _ => ∃ (a nb ob : Addr) (p o : Pt) (ks : List Int), vs = [.ref a, .ref nb, .ref ob] ∧ PAt H p a ∧ PAt H o ob ∧ H nb = some (.tup (ks.map V.int)) ∧ ks.length ≤ n ∧ ∀ r H', Same H H' → PAt H' (putP o p ks) r → Q (.ref r) H'
abbrev s_law_put : Stmt := top 34
theorem scLput : FnScope ["part", "numbers", "other", "kids", "number", "one"] ["part", "numbers", "other"] (defScope s_law_put) := ⟨rfl, rfl, rfl, by decide +kernel, rfl, by decide +kernel, by decide +kernel⟩
theorem ok_lput (T : Txt K mg) (n : Nat) {f f1 : Addr} {fd d1 : FuncData} (F : Fun K "_law_put" "_law_put" s_law_put f fd) (G_law_kids : FnOk P w K mg base CX0 1 f1 d1 ["part"] spLKids) (R_law_kids : Ref K mg "_law_kids" f1 d1 ["part"])
    (G_law_put : FnOk P w K mg base CX0 (n + 1) f fd ["part", "numbers", "other"] (spLPut n)) (R_law_put : Ref K mg "_law_put" f fd ["part", "numbers", "other"]) : FnOk P w K mg base CX0 (n + 2) f fd ["part", "numbers", "other"] (spLPut (n + 1)) := by
  refine F.ok scLput (fun vs H Q E h => ?_) (fun cdv A outer s H vs Q E hr h => ?_)
  · obtain ⟨a, nb, ob, p, o, ks, rfl, _⟩ := h
    rfl
  obtain ⟨a, nb, ob, p, o, ks, rfl, hA, hO, hnb, hn, q⟩ := h
  refine ⟨_, (pss_cons (ps_if (pt_cmpR (op_eqD hr.units) (pv 1) (pe_tup pa_nil) (nomark _)) (pss_one (ps_ret (pv 2))) pss_nil)
    (pss_cons (ps_set (i := 3) scLput.nd rfl (Or.inl rfl) (pe_lst pa_nil))
    (pss_cons (ps_for PassesOwn.never rfl (pi_list (pe_call G_law_kids (hr.mono (by omega)) rfl R_law_kids.m R_law_kids.k R_law_kids.b .nil pass0 (pa_cons (pv 0) pa_nil))) (pg_tup rfl (pgs_cons (pg_name (i := 4) scLput.nd rfl (Or.inl rfl)) (pgs_cons (pg_name (i := 5) scLput.nd rfl (Or.inl rfl)) pgs_nil))) (Evl.pss_cut (ps_if (pt_cmpR op_eq (pv 4) (pe_ix ix_tup (pv 1) pe_int (fun _ _ => rfl)) (nomark _)) (pss_one (ps_set (i := 5) scLput.nd rfl (Or.inl rfl) (pe_call G_law_put (hr.mono (by omega)) rfl R_law_put.m R_law_put.k R_law_put.b .nil pass0 (pa_cons (pv 5) (pa_cons (pe_slice sl_tupA (pv 1) (po_some pe_int) po_none) (pa_cons (pv 2) pa_nil)))))) pss_nil)
    (pss_one (ps_expr (pe_bm PySem.F.plainAttrs_list PySem.F.slot_list_append PySem.F.type_list_append mt_append (pv 3) (pa_cons (pv 5) pa_nil))))))
    (pss_one (ps_ret (pe_op op_catA (pe_slice sl_tupA (pv 0) po_none (po_some (pe_op op_sub (pe_callB call_len_seq (by rfl) T.m_len PySem.boot_len (pa_cons (pv 0) pa_nil)) (pe_callB call_len_seq (by rfl) T.m_len PySem.boot_len (pa_cons (pv 3) pa_nil))))) (pe_callTy call_tuple_of (by rfl) T.m_tuple (by decide +kernel) (pa_cons (pv 3) pa_nil)))))))), ?_⟩
  refine ⟨_, rfl, sz (by show 0 ≤ 100000; decide), fun t0 ht0 => ?_⟩
  have s0 := same_new ht0 (.tup [])
  refine ⟨.tuple (ks.map PyData.int), .tuple [], .tup (SqT.of (s0 _ _ hnb)) (dp_ints ks), .tup (SqT.of upd_same) .nil, shaped_ints ks, shaped_nil, _, rfl, ?_⟩
  rw [eqv_nilI]
  generalize upd H t0 (.tup []) = H0 at s0
  have hA0 := hA.tk (tk_same s0)
  have hO0 := hO.tk (tk_same s0)
  have hnb0 := s0 _ _ hnb
  cases ks with
  | nil =>
    refine itT rfl ⟨_, rfl, q ob H0 s0 ?_⟩
    cases p <;> exact hO0
  | cons k ks =>
    refine itF rfl ⟨sz (by show 0 ≤ 100000; decide), fun nl hnl => ?_⟩
    have s1 := same_new hnl (.lst [])
    refine ⟨_, rfl, a, p, rfl, hA0.tk (tk_same s1), fun kl H2 us hkl s2 hk2 kk2 => ?_⟩
    have s12 := s1.trans s2
    have hlk := kk2.len
    have hnk : nl ≠ kl := ne_of_none upd_same hkl
    refine ⟨kl, rfl, ⟨_, SqL.of hk2⟩, for_list (K := K) (a := kl) (xs := us) (fun i σ H' => ∃ vs o4 o5, σ = [some (.ref a), some (.ref nb), some (.ref ob), some (.ref nl), o4, o5] ∧ Same H0 H' ∧ H' kl = some (.lst us) ∧ All2 (KidV H') (lkids p) us ∧ H' nl = some (.lst vs) ∧ All2 (PV H') (((lkids p).take i).map (newK o k ks)) vs) ?_ ?_ ?_ ?_⟩
    · refine ⟨[], none, none, rfl, s12, hk2, kk2, s2 _ _ upd_same, ?_⟩
      rw [List.take_zero]
      exact trivial
    · rintro i σ H' _ ⟨vs, o4, o5, rfl, _, h1, _⟩
      exact SqL.of h1
    · rintro i x σ H3 hx ⟨vs, o4, o5, rfl, s3, h1, h2, h3, h4⟩
      obtain ⟨kid, hk', qa, b, rfl, g1, g2⟩ := h2.get hx
      refine ⟨qa, _, rfl, SqT.of g1, rfl, _, _, rfl, _, _, rfl, rfl, ?_⟩
      refine ⟨fun σ' H' => ∃ b', σ' = [some (.ref a), some (.ref nb), some (.ref ob), some (.ref nl), some (.int kid.1), some (.ref b')] ∧ Same H3 H' ∧ PAt H' (newK o k ks kid) b', ?_, ?_⟩
      · refine ⟨_, rfl, _, rfl, nb, _, _, _, rfl, rfl, SqT.of (s3 _ _ hnb0), at0, rfl, _, rfl, ?_⟩
        unfold newK
        refine ite2 (fun c => ?_) (fun c => ?_)
        · have c' : kid.1 = k := V.int.inj (of_decide_eq_true c)
          rw [if_pos c']
          refine ⟨_, rfl, _, rfl, _, rfl, ?_⟩
          dsimp only [tNoPart]
          refine slA_of (K := K) (lo := some 1) (hi := none) (s3 _ _ hnb0) fun nb' H4 s4 g4 => ?_
          have e5 : cutV ((k :: ks).map V.int) (some 1) none = ks.map V.int := cut1
          rw [e5] at g4
          refine ⟨_, rfl, ?_⟩
          cases n with
          | zero => exact absurd hn (by simp)
          | succ n => exact ⟨b, nb', ob, kid.2, o, ks, rfl, g2.tk (tk_same s4), (hO0.tk (tk_same s3)).tk (tk_same s4), g4, by simpa using hn, fun r H5 s5 h5 => ⟨r, rfl, s4.trans s5, h5⟩⟩
        · have c' : ¬ kid.1 = k := fun z => c (decide_eq_true (congrArg V.int z))
          rw [if_neg c']
          exact ⟨b, rfl, Same.refl _, g2⟩
      · rintro σ' H4 ⟨b', rfl, s4, g4⟩
        have e1 := h4.len
        rw [List.length_map, List.length_take] at e1
        have e2 := lk_len p
        have h5 := s4 _ _ h3
        refine ⟨_, rfl, .inl ⟨rfl, _, SqL.of h5⟩, _, rfl, nl, _, _, rfl, rfl, h5, Nat.lt_of_le_of_lt (m := 1000) (by omega) (by decide), ?_⟩
        have tk := tk_put (o := .lst (vs ++ [.ref b'])) h5
        have tk2 := (tk_same s4).trans tk
        refine ⟨vs ++ [.ref b'], _, _, rfl, same_mut (s3.trans s4) hnl, ?_, h2.imp fun _ _ z => z.tk tk2, upd_same, ?_⟩
        · rw [upd_ne hnk.symm]
          exact s4 _ _ h1
        · obtain ⟨hj, hj2⟩ := List.getElem?_eq_some_iff.mp hk'
          rw [List.take_succ_eq_append_getElem hj, hj2, List.map_append]
          exact (h4.imp fun _ _ z => z.tk tk2).app ⟨⟨b', rfl, g4.tk tk⟩, trivial⟩
    · rintro σ H3 ⟨vs, o4, o5, rfl, s3, h1, h2, h3, h4⟩
      rw [hlk, List.take_length] at h4
      obtain ⟨xs, hx1, hx2, hx3, hx4⟩ := reb_at (hA0.tk (tk_same s3)) h4
      refine ⟨_, rfl, ?_⟩
      dsimp only [tNoPart]
      refine ⟨_, rfl, a, _, rfl, .inr (SqT.of hx1), _, rfl, nl, _, rfl, .inl (SqL.of h3), _, _, rfl, rfl, _, rfl, ?_⟩
      refine slA_of (K := K) (lo := none) (hi := some ((xs.length : Int) - (vs.length : Int))) hx1 fun t1 H4 s4 g4 => ?_
      have e5 : cutV xs none (some ((xs.length : Int) - (vs.length : Int))) = xs.take (xs.length - vs.length) := by
        rw [cut_to (by omega) (by omega)]
        congr 1
        omega
      rw [e5] at g4
      refine ⟨_, rfl, nl, _, rfl, .inl ⟨SqL.of (s4 _ _ h3), fun t2 ht2 => ?_⟩⟩
      have s5 := same_new ht2 (.tup vs)
      refine catA_of (s5 _ _ g4) upd_same (by rw [List.length_take]; omega) fun r H5 s6 g6 => ?_
      have s46 := s4.trans (s5.trans s6)
      refine q r H5 (s0.trans (s3.trans s46)) ?_
      rw [putP_reb]
      exact hx4 (tk_same s46) g6
theorem all_lput (T : Txt K mg) {f f1 : Addr} {fd d1 : FuncData} (F : Fun K "_law_put" "_law_put" s_law_put f fd) (G_law_kids : FnOk P w K mg base CX0 1 f1 d1 ["part"] spLKids) (R_law_kids : Ref K mg "_law_kids" f1 d1 ["part"]) (R_law_put : Ref K mg "_law_put" f fd ["part", "numbers", "other"]) : ∀ n : Nat, FnOk P w K mg base CX0 (n + 1) f fd ["part", "numbers", "other"] (spLPut n)
  | 0 => no_sp
  | n + 1 => ok_lput T n F G_law_kids R_law_kids (all_lput T F G_law_kids R_law_kids R_law_put n) R_law_put
end
end KB

namespace KB
open PySem L2 HT

/-! ### laid: as the program looks -/
def isAskP : Pt → Bool | .ask _ _ _ => true | _ => false
def isPostP : Pt → Bool | .post _ _ _ _ => true | _ => false
def isGiveP : Pt → Bool | .give _ _ => true | _ => false
def okHere (d : Str) : Pt → Bool
  | .give j _ => decide (j = "home")
  | .ask _ _ j => decide (j = d)
  | .post _ _ _ q => isAskP q
  | _ => true
def kidsD : Pt → List (Pt × Str)
  | .give _ _ => []
  | .ask _ _ _ => []
  | .tell _ _ p => [(p, "home")]
  | .lett _ _ p => [(p, "home")]
  | .iff _ p q => [(p, "home"), (q, "home")]
  | .post j _ p q => [(p, "home"), (q, j)]
def laidP : Str → Pt → Bool
  | _, .give j _ => decide (j = "home")
  | d, .ask _ _ j => decide (j = d)
  | _, .tell _ _ p => laidP "home" p
  | _, .lett _ _ p => laidP "home" p
  | _, .iff _ p q => laidP "home" p && laidP "home" q
  | _, .post j _ p q => isAskP q && (laidP "home" p && laidP j q)
def laidS (ws : List (Pt × Str)) : Bool := ws.all fun w => laidP w.2 w.1
theorem laidP_mk (d : Str) (p : Pt) : laidP d p = (okHere d p && laidS (kidsD p)) := by
  cases p with
  | give j t => exact (Bool.and_true _).symm
  | ask f ts j => exact (Bool.and_true _).symm
  | tell x t p => show laidP "home" p = (true && (laidP "home" p && true)); rw [Bool.and_true, Bool.true_and]
  | lett x t p => show laidP "home" p = (true && (laidP "home" p && true)); rw [Bool.and_true, Bool.true_and]
  | iff t p q => show (laidP "home" p && laidP "home" q) = (true && (laidP "home" p && (laidP "home" q && true))); rw [Bool.and_true, Bool.true_and]
  | post j x p q => show (isAskP q && (laidP "home" p && laidP j q)) = (isAskP q && (laidP "home" p && (laidP j q && true))); rw [Bool.and_true]
theorem laidS_app (a b : List (Pt × Str)) : laidS (a ++ b) = (laidS a && laidS b) := List.all_append
def wsz (ws : List (Pt × Str)) : Nat := (ws.map fun w => pcnt w.1).sum
theorem wsz_app (a b : List (Pt × Str)) : wsz (a ++ b) = wsz a + wsz b := by
  unfold wsz
  rw [List.map_append, List.sum_append]
theorem wsz_kids (p : Pt) : pcnt p = 1 + wsz (kidsD p) := by
  cases p <;> simp only [pcnt, kidsD, wsz, List.map, List.sum_cons, List.sum_nil] <;> omega
theorem wsz_len : ∀ ws : List (Pt × Str), ws.length ≤ wsz ws
  | [] => Nat.le_refl _
  | w :: r => by
    have := wsz_len r
    have h1 := pc_pos w.1
    show r.length + 1 ≤ pcnt w.1 + wsz r
    omega
theorem hsP_post_is (p : Pt) : decide (V.str (hsP p) = V.str "post") = isPostP p := by cases p <;> rfl
theorem kids_rest {p : Pt} (h : isPostP p = false) : kidsD p = (restP p).map fun q => (q, ("home" : Str)) := by
  cases p with
  | post j x p q => cases h
  | _ => rfl
/-- a pair of a part and the hand-on that is due -/
def PrV (H : Hp) (w : Pt × Str) (v : V) : Prop := ∃ q b, v = .ref q ∧ H q = some (.tup [.ref b, .str w.2]) ∧ PAt H w.1 b
theorem PrV.tk {H H' : Hp} (k : TK H H') {w : Pt × Str} {v : V} (h : PrV H w v) : PrV H' w v := let ⟨q, b, e, h1, h2⟩ := h; ⟨q, b, e, k _ _ h1, h2.tk k⟩
section
variable {P : Program} {w : World} {K : PySem.W.Frag} {mg : Str → Option Value} {base : Heap}
/-! ### is_part_laid -/
def spPartLaid : Sp := fun vs H Q _ => ∃ (a : Addr) (p : Pt) (d : Str), vs = [.ref a, .str d] ∧ PAt H p a ∧ Q (.bl (okHere d p)) H
abbrev sis_part_laid : Stmt := top 6
theorem scis_part_laid : FnScope ["part", "due"] ["part", "due"] (defScope sis_part_laid) := ⟨rfl, rfl, rfl, by decide +kernel, rfl, by decide +kernel, by decide +kernel⟩
theorem eq_str (x y : Str) : decide (V.str x = V.str y) = decide (x = y) := by
  by_cases h : x = y
  · rw [h, decide_eq_true rfl, decide_eq_true rfl]
  · rw [decide_eq_false h, decide_eq_false fun z => h (V.str.inj z)]
theorem hsP_ask_is (p : Pt) : decide (V.str (hsP p) = V.str "ask") = isAskP p := by cases p <;> rfl
theorem ok_pl (hHome : ∃ t, mg "HOME" = some (.str "home" t)) {f : Addr} {fd : FuncData} (F : Fun K "is_part_laid" "is_part_laid" sis_part_laid f fd) : FnOk P w K mg base CX0 1 f fd ["part", "due"] spPartLaid := by
  refine F.ok scis_part_laid (fun vs H Q E h => ?_) (fun cdv A outer s H vs Q E hr h => ?_)
  · obtain ⟨a, p, d, rfl, _⟩ := h
    rfl
  obtain ⟨a, p, d, rfl, hA, q⟩ := h
  obtain ⟨th, eh⟩ := hHome
  refine ⟨_, (pss_cons (ps_if (pt_cmpR op_eq (pe_ix ix_tup (pv 0) pe_int (fun _ _ => rfl)) pe_str (nomark _)) (pss_one (ps_ret (pe_cmpR op_eq (pe_ix ix_tup (pv 0) pe_int (fun _ _ => rfl)) (pe_glob (v := .str "home") rfl eh ⟨_, rfl⟩) (nomark _)))) pss_nil)
    (pss_cons (ps_if (pt_cmpR op_eq (pe_ix ix_tup (pv 0) pe_int (fun _ _ => rfl)) pe_str (nomark _)) (pss_one (ps_ret (pe_cmpR op_eq (pe_ix ix_tup (pv 0) pe_int (fun _ _ => rfl)) (pv 1) (nomark _)))) pss_nil)
    (pss_one (ps_ret (pe_or (pe_cmpR op_ne (pe_ix ix_tup (pv 0) pe_int (fun _ _ => rfl)) pe_str (nomark _)) (pe_one (pe_cmpR op_eq (pe_ix ix_tup (pe_ix ix_tup (pv 0) pe_int (fun _ _ => rfl)) pe_int (fun _ _ => rfl)) pe_str (nomark _)))))))), ?_⟩
  obtain ⟨r0, hd⟩ := hA.head
  refine ⟨_, rfl, a, _, _, _, rfl, rfl, SqT.of hd, at0, rfl, _, rfl, ?_⟩
  cases p with
  | give j t =>
    obtain ⟨b, h1, h2⟩ := hA
    refine itT rfl ⟨_, rfl, a, _, _, _, rfl, rfl, SqT.of h1, at1, rfl, ?_⟩
    rw [eq_str]
    exact q
  | ask g ts j =>
    obtain ⟨b, vs, h1, h2, h3⟩ := hA
    refine itF rfl ⟨_, rfl, a, _, _, _, rfl, rfl, SqT.of h1, at0, rfl, _, rfl, itT rfl ⟨_, rfl, a, _, _, _, rfl, rfl, SqT.of h1, at3, _, rfl, rfl, ?_⟩⟩
    rw [eq_str]
    exact q
  | post j x p p2 =>
    obtain ⟨c, d', h1, h2, h3⟩ := hA
    obtain ⟨r1, hd2⟩ := h3.head
    refine itF rfl ⟨_, rfl, a, _, _, _, rfl, rfl, SqT.of h1, at0, rfl, _, rfl, itF rfl ⟨_, rfl, a, _, _, _, rfl, rfl, SqT.of h1, at0, rfl, _, rfl, itF rfl ⟨_, rfl, a, _, _, _, rfl, rfl, SqT.of h1, at4, d', _, _, _, rfl, rfl, SqT.of hd2, at0, rfl, ?_⟩⟩⟩
    rw [hsP_ask_is]
    exact q
  | tell x t p =>
    obtain ⟨b, c, h1, h2, h3⟩ := hA
    exact itF rfl ⟨_, rfl, a, _, _, _, rfl, rfl, SqT.of h1, at0, rfl, _, rfl, itF rfl ⟨_, rfl, a, _, _, _, rfl, rfl, SqT.of h1, at0, rfl, _, rfl, itT rfl q⟩⟩
  | lett x t p =>
    obtain ⟨b, c, h1, h2, h3⟩ := hA
    exact itF rfl ⟨_, rfl, a, _, _, _, rfl, rfl, SqT.of h1, at0, rfl, _, rfl, itF rfl ⟨_, rfl, a, _, _, _, rfl, rfl, SqT.of h1, at0, rfl, _, rfl, itT rfl q⟩⟩
  | iff t p p2 =>
    obtain ⟨b, c, d', h1, h2, h3, h4⟩ := hA
    exact itF rfl ⟨_, rfl, a, _, _, _, rfl, rfl, SqT.of h1, at0, rfl, _, rfl, itF rfl ⟨_, rfl, a, _, _, _, rfl, rfl, SqT.of h1, at0, rfl, _, rfl, itT rfl q⟩⟩
/-! ### is_body_laid -/
def spBodyLaid : Sp := fun vs H Q _ => ∃ (a : Addr) (p : Pt), vs = [.ref a] ∧ PAt H p a ∧ pcnt p ≤ 1000 ∧ ∀ H', Same H H' → Q (.bl (laidP "home" p)) H'
abbrev sis_body_laid : Stmt := top 5
theorem scis_body_laid : FnScope ["body", "waiting", "part", "due", "one"] ["body"] (defScope sis_body_laid) := ⟨rfl, rfl, rfl, by decide +kernel, rfl, by decide +kernel, by decide +kernel⟩
def BLW (H : Hp) (a wl : Addr) (p : Pt) (m : Nat) (σ : St) (H' : Hp) : Prop := ∃ o2 o3 ws rs, σ = [some (.ref a), some (.ref wl), o2, o3, none] ∧ Same H H' ∧ H' wl = some (.lst rs) ∧ All2 (PrV H') ws rs ∧ m = wsz ws ∧ wsz ws ≤ 1000 ∧ laidS ws = laidP "home" p
theorem all2_last {α : Type} {R : α → V → Prop} {as : List α} {vs : List V} (h : All2 R as vs) {a : α} {as' : List α} (e : as = as' ++ [a]) : ∃ vs' v, vs = vs' ++ [v] ∧ All2 R as' vs' ∧ R a v := by
  subst e
  induction as' generalizing vs with
  | nil =>
    match vs, h with
    | [v], ⟨h1, _⟩ => exact ⟨[], v, rfl, trivial, h1⟩
  | cons b r ih =>
    match vs, h with
    | v :: vs, ⟨h1, h2⟩ =>
      obtain ⟨vs', v', rfl, k1, k2⟩ := ih h2
      exact ⟨v :: vs', v', rfl, ⟨h1, k1⟩, k2⟩
theorem ok_bl (hHome : ∃ t, mg "HOME" = some (.str "home" t)) {f f1 f2 : Addr} {fd d1 d2 : FuncData} (F : Fun K "is_body_laid" "is_body_laid" sis_body_laid f fd) (Gis_part_laid : FnOk P w K mg base CX0 1 f1 d1 ["part", "due"] spPartLaid) (Ris_part_laid : Ref K mg "is_part_laid" f1 d1 ["part", "due"])
    (Grest_of : FnOk P w K mg base CX0 1 f2 d2 ["part"] (spKids TrP)) (Rrest_of : Ref K mg "rest_of" f2 d2 ["part"]) : FnOk P w K mg base CX0 2 f fd ["body"] spBodyLaid := by
  refine F.ok scis_body_laid (fun vs H Q E h => ?_) (fun cdv A outer s H vs Q E hr h => ?_)
  · obtain ⟨a, p, rfl, _⟩ := h
    rfl
  obtain ⟨a, p, rfl, hA, hc, q⟩ := h
  obtain ⟨th, eh⟩ := hHome
  refine ⟨_, (pss_cons (ps_set (i := 1) scis_body_laid.nd rfl (Or.inl rfl) (pe_lst (pa_cons (pe_tup (pa_cons (pv 0) (pa_cons (pe_glob (v := .str "home") rfl eh ⟨_, rfl⟩) pa_nil))) pa_nil)))
    (pss_cons (ps_while PassesOwn.never (pt_truth (pv 1) (by intro _; rfl)) (pss_cons (ps_asg (pe_bm0 PySem.F.plainAttrs_list PySem.F.slot_list_pop PySem.F.type_list_pop mt_pop (pv 1)) (pg_tup rfl (pgs_cons (pg_name (i := 2) scis_body_laid.nd rfl (Or.inl rfl)) (pgs_cons (pg_name (i := 3) scis_body_laid.nd rfl (Or.inl rfl)) pgs_nil))))
    (pss_cons (ps_if (pt_not (pt_val (pe_call Gis_part_laid (hr.mono (by omega)) rfl Ris_part_laid.m Ris_part_laid.k Ris_part_laid.b .nil pass0 (pa_cons (pv 2) (pa_cons (pv 3) pa_nil))))) (pss_one (ps_ret pe_bl)) pss_nil)
    (pss_one (ps_if (pt_cmpR op_eq (pe_ix ix_tup (pv 2) pe_int (fun _ _ => rfl)) pe_str (nomark _)) (pss_cons (ps_expr (pe_bm PySem.F.plainAttrs_list PySem.F.slot_list_append PySem.F.type_list_append mt_append (pv 1) (pa_cons (pe_tup (pa_cons (pe_ix ix_tup (pv 2) pe_int (fun _ _ => rfl)) (pa_cons (pe_glob (v := .str "home") rfl eh ⟨_, rfl⟩) pa_nil))) pa_nil)))
    (pss_one (ps_expr (pe_bm PySem.F.plainAttrs_list PySem.F.slot_list_append PySem.F.type_list_append mt_append (pv 1) (pa_cons (pe_tup (pa_cons (pe_ix ix_tup (pv 2) pe_int (fun _ _ => rfl)) (pa_cons (pe_ix ix_tup (pv 2) pe_int (fun _ _ => rfl)) pa_nil))) pa_nil))))) (pss_one (ps_expr (pe_bm PySem.F.plainAttrs_list PySem.F.slot_list_extend PySem.F.type_list_extend mt_extend (pv 1) (pa_cons (pe_lc (own := [("one", 4)]) (g := gName 4) (by rfl) scis_body_laid.nd (pi_tup (pe_call Grest_of (hr.mono (by omega)) rfl Rrest_of.m Rrest_of.k Rrest_of.b .nil pass0 (pa_cons (pv 2) pa_nil))) (blkOk_by (own := [("one", 4)]) (N := ["body", "waiting", "part", "due", "one"]) (sc := defScope sis_body_laid) (by decide +kernel)) (fun _ _ _ _ _ => (pg_name (i := 4) scis_body_laid.nd rfl (Or.inl rfl))) (fun _ _ _ _ _ => pts_nil) (fun _ _ _ _ _ => (pe_tup (pa_cons (pv 4) (pa_cons (pe_glob (v := .str "home") rfl eh ⟨_, rfl⟩) pa_nil))))) pa_nil)))))))))
    (pss_one (ps_ret pe_bl)))), ?_⟩
  refine ⟨_, rfl, sz (by show 2 ≤ 100000; decide), fun t0 ht0 => ?_⟩
  have s0 := same_new ht0 (.tup [.ref a, .str "home"])
  refine ⟨sz (by show 1 ≤ 100000; decide), fun wl hwl => ?_⟩
  have s1 := same_new hwl (.lst [.ref t0])
  have s01 := s0.trans s1
  have nwl := s0.free hwl
  refine ⟨BLW H a wl p, ⟨_, none, none, [(p, "home")], [.ref t0], rfl, s01, upd_same, ⟨⟨t0, a, rfl, s1 _ _ upd_same, hA.tk (tk_same s01)⟩, trivial⟩, rfl, by show pcnt p + 0 ≤ 1000; omega, by show (laidP "home" p && true) = _; rw [Bool.and_true]⟩, ?_⟩
  clear s0 s1 s01 hwl
  rintro m σ H1 ⟨o2, o3, ws, rs, rfl, s1, h1, k1, rfl, hw, hl⟩
  refine ⟨_, rfl, _, .inl ⟨_, SqL.of h1, rfl⟩, ?_⟩
  rcases List.eq_nil_or_concat ws with rfl | ⟨ws', w0, rfl⟩
  · match rs, k1 with
    | [], _ =>
      refine itF rfl ?_
      have := q H1 s1
      rw [← hl] at this
      exact this
  · obtain ⟨p0, d0⟩ := w0
    rw [List.concat_eq_append] at k1 hw hl
    obtain ⟨rs', v, rfl, k2, qe, b, rfl, g1, g2⟩ := all2_last k1 rfl
    refine itT (by simp) ⟨fun σ' H' => ∃ m', m' < wsz (ws'.concat (p0, d0)) ∧ BLW H a wl p m' σ' H', fun _ _ z => z, ?_⟩
    rw [List.concat_eq_append]
    have hb0 : (rs' ++ [V.ref qe]).getLast? = some (V.ref qe) := by simp
    refine ⟨_, rfl, .inl ⟨rfl, _, SqL.of h1⟩, wl, _, .ref qe, rfl, rfl, h1, by simp, ?_⟩
    rw [List.dropLast_concat]
    have tk2 : TK H1 (upd H1 wl (.lst rs')) := tk_put h1
    have s2 : Same H (upd H1 wl (.lst rs')) := same_mut s1 nwl
    have w2 : upd H1 wl (.lst rs') wl = some (.lst rs') := upd_same
    have k3 := k2.imp fun _ _ z => PrV.tk tk2 z
    have g3 := tk2 _ _ g1
    have g4 := g2.tk tk2
    generalize upd H1 wl (.lst rs') = H2 at s2 w2 k3 g3 g4
    clear tk2 h1 k1 k2 g1 g2 s1
    refine ⟨qe, _, rfl, SqT.of g3, rfl, _, _, rfl, _, _, rfl, rfl, ?_⟩
    have hsp : laidS (ws' ++ [(p0, d0)]) = (laidS ws' && (okHere d0 p0 && laidS (kidsD p0))) := by
      rw [laidS_app]
      show (laidS ws' && (laidP d0 p0 && true)) = _
      rw [Bool.and_true, laidP_mk]
    rw [hsp] at hl
    have hwz : wsz (ws' ++ [(p0, d0)]) = wsz ws' + (1 + wsz (kidsD p0)) := by
      rw [wsz_app, ← wsz_kids]
      rfl
    refine ⟨_, rfl, _, rfl, b, p0, d0, rfl, g4, _, rfl, ?_⟩
    cases ho : okHere d0 p0 with
    | false =>
      refine itT rfl ?_
      have := q H2 s2
      rw [← hl, ho, Bool.false_and, Bool.and_false] at this
      exact this
    | true =>
      rw [ho, Bool.true_and] at hl
      refine itF rfl ?_
      obtain ⟨r0, hd⟩ := g4.head
      have lrs := k3.len
      have lws := wsz_len ws'
      refine ⟨_, rfl, b, _, _, _, rfl, rfl, SqT.of hd, at0, rfl, _, rfl, ?_⟩
      show if decide (V.str (hsP p0) = V.str "post") = true then _ else _
      rw [hsP_post_is]
      cases hp : isPostP p0 with
      | true =>
        obtain ⟨j, x, p1, p2, rfl⟩ : ∃ j x p1 p2, p0 = .post j x p1 p2 := by
          cases p0 with
          | post j x p1 p2 => exact ⟨j, x, p1, p2, rfl⟩
          | _ => cases hp
        obtain ⟨ca, da, h3, h4, h5⟩ := g4
        refine itT rfl ⟨_, rfl, .inl ⟨rfl, _, SqL.of w2⟩, _, rfl, b, _, _, _, rfl, rfl, SqT.of h3, at3, sz (by show 2 ≤ 100000; decide), fun t1 ht1 => ?_⟩
        have s3 := same_new ht1 (.tup [.ref ca, .str "home"])
        refine ⟨wl, _, _, rfl, rfl, s3 _ _ w2, Nat.lt_of_le_of_lt (m := 2000) (by omega) (by decide), ?_⟩
        have tk4 := (tk_same s3).trans (tk_put (o := .lst (rs' ++ [.ref t1])) (s3 _ _ w2))
        have s4 := same_mut (o := .lst (rs' ++ [.ref t1])) (s2.trans s3) nwl
        have w4 : upd (upd H2 t1 (.tup [.ref ca, .str "home"])) wl (.lst (rs' ++ [.ref t1])) wl = some (.lst (rs' ++ [.ref t1])) := upd_same
        have k4 : All2 (PrV (upd (upd H2 t1 (.tup [.ref ca, .str "home"])) wl (.lst (rs' ++ [.ref t1])))) (ws' ++ [(p1, ("home" : Str))]) (rs' ++ [.ref t1]) := (k3.imp fun _ _ z => PrV.tk tk4 z).app ⟨⟨t1, ca, rfl, (tk_put (s3 _ _ w2)) _ _ upd_same, h4.tk tk4⟩, trivial⟩
        have h3' := tk4 _ _ h3
        have h5' := h5.tk tk4
        generalize upd (upd H2 t1 (.tup [.ref ca, .str "home"])) wl (.lst (rs' ++ [.ref t1])) = H4 at s4 w4 k4 h3' h5'
        refine ⟨_, rfl, .inl ⟨rfl, _, SqL.of w4⟩, _, rfl, b, _, _, _, rfl, rfl, SqT.of h3', at4, _, rfl, b, _, _, _, rfl, rfl, SqT.of h3', at1, sz (by show 2 ≤ 100000; decide), fun t2 ht2 => ?_⟩
        have s5 := same_new ht2 (.tup [.ref da, .str j])
        refine ⟨wl, _, _, rfl, rfl, s5 _ _ w4, Nat.lt_of_le_of_lt (m := 2000) (by rw [List.length_append, List.length_singleton]; omega) (by decide), ?_⟩
        have tk6 := (tk_same s5).trans (tk_put (o := .lst ((rs' ++ [.ref t1]) ++ [.ref t2])) (s5 _ _ w4))
        have k6 : All2 (PrV (upd (upd H4 t2 (.tup [.ref da, .str j])) wl (.lst ((rs' ++ [.ref t1]) ++ [.ref t2])))) ((ws' ++ [(p1, ("home" : Str))]) ++ [(p2, j)]) ((rs' ++ [.ref t1]) ++ [.ref t2]) := (k4.imp fun _ _ z => PrV.tk tk6 z).app ⟨⟨t2, da, rfl, (tk_put (s5 _ _ w4)) _ _ upd_same, h5'.tk tk6⟩, trivial⟩
        refine ⟨wsz ((ws' ++ [(p1, ("home" : Str))]) ++ [(p2, j)]), ?_, _, _, (ws' ++ [(p1, ("home" : Str))]) ++ [(p2, j)], (rs' ++ [.ref t1]) ++ [.ref t2], rfl, same_mut (s4.trans s5) nwl, upd_same, k6, rfl, ?_, ?_⟩
        · rw [hwz, List.append_assoc, wsz_app]
          show wsz ws' + wsz (kidsD (.post j x p1 p2)) < _
          omega
        · rw [List.append_assoc, wsz_app]
          show wsz ws' + wsz (kidsD (.post j x p1 p2)) ≤ 1000
          omega
        · rw [List.append_assoc, laidS_app]
          exact hl
      | false =>
        refine itF rfl ⟨_, rfl, .inl ⟨rfl, _, SqL.of w2⟩, _, rfl, p0, b, rfl, g4, fun rp H3 us s3 h3 k4 => ?_⟩
        have hus := k4.len
        refine ⟨rp, rfl, ⟨_, SqT.of h3⟩, fun D hD => lc_tup (K := K) (a := rp) (xs := us) (fun i H' => Same H3 H' ∧ ∃ acc, H' D = some (.lst acc) ∧ All2 (PrV H') (((restP p0).take i).map fun q => (q, ("home" : Str))) acc) ⟨same_new hD _, [], upd_same, by rw [List.take_zero]; trivial⟩ ?_ ?_ ?_⟩
        · rintro i H' _ ⟨s4, _⟩
          exact SqT.of (s4 _ _ h3)
        · rintro i x H4 hx ⟨s4, acc, h4, k5⟩
          obtain ⟨u, hu, bu, rfl, hbu⟩ := k4.get hx
          have hu : (restP p0)[i]? = some u := hu
          obtain ⟨hj, hj2⟩ := List.getElem?_eq_some_iff.mp hu
          have hle := k5.len
          rw [List.length_map, List.length_take] at hle
          refine ⟨rfl, ?_⟩
          dsimp only [tYes]
          refine iteT ⟨_, rfl, sz (by show 2 ≤ 100000; decide), fun t1 ht1 => ?_⟩
          have s5 := same_new ht1 (.tup [.ref bu, .str "home"])
          have h5 := s5 _ _ h4
          have tk5 := tk_put (o := .lst (acc ++ [.ref t1])) h5
          have hrl : (restP p0).length ≤ 2 := by cases p0 <;> simp [restP]
          refine ⟨acc, h5, Nat.lt_of_le_of_lt (m := 100) (by omega) (by decide), same_mut (s4.trans s5) hD, _, upd_same, ?_⟩
          rw [List.take_succ_eq_append_getElem hj, hj2, List.map_append]
          exact ((k5.imp fun _ _ z => PrV.tk (tk_same s5) z).imp fun _ _ z => z.tk tk5).app ⟨⟨t1, bu, rfl, tk5 _ _ upd_same, PAt.tk ((tk_same (s4.trans s5)).trans tk5) hbu⟩, trivial⟩
        · rintro H4 ⟨s4, acc, h4, k5⟩
          rw [show us.length = (restP p0).length from hus, List.take_length, ← kids_rest hp] at k5
          have s34 := s3.trans s4
          have la := k5.len
          have hkl : (kidsD p0).length ≤ 2 := by cases p0 <;> simp [kidsD]
          have w4 := s34 _ _ w2
          refine ⟨wl, D, _, _, rfl, rfl, w4, h4, sz (by omega), ?_⟩
          have tk5 := tk_put (o := .lst (rs' ++ acc)) w4
          refine ⟨wsz (ws' ++ kidsD p0), ?_, _, _, ws' ++ kidsD p0, rs' ++ acc, rfl, same_mut (s2.trans s34) nwl, upd_same, (k3.imp fun _ _ z => PrV.tk ((tk_same s34).trans tk5) z).app (k5.imp fun _ _ z => z.tk tk5), rfl, ?_, ?_⟩
          · rw [hwz, wsz_app]
            omega
          · rw [wsz_app]
            omega
          · rw [laidS_app]
            exact hl
/-! ### is_laid -/
def spIsLaid : Sp := fun vs H Q _ => ∃ (p : Addr) (es : List TEr) (us : List V), vs = [.ref p] ∧ TBkAt H es us p ∧ es.length ≤ 6 ∧ (∀ e ∈ es, pcnt e.2.2 ≤ 1000) ∧ ∀ H', Same H H' → Q (.bl (es.all fun e => laidP "home" e.2.2)) H'
abbrev sis_laid : Stmt := top 4
theorem scis_laid : FnScope ["turned", "name", "names", "body"] ["turned"] (defScope sis_laid) := ⟨rfl, rfl, rfl, by decide +kernel, rfl, by decide +kernel, by decide +kernel⟩
theorem ok_il (T : Txt K mg) {f f1 : Addr} {fd d1 : FuncData} (F : Fun K "is_laid" "is_laid" sis_laid f fd) (Gis_body_laid : FnOk P w K mg base CX0 2 f1 d1 ["body"] spBodyLaid) (Ris_body_laid : Ref K mg "is_body_laid" f1 d1 ["body"]) : FnOk P w K mg base CX0 3 f fd ["turned"] spIsLaid := by
  refine F.ok scis_laid (fun vs H Q E h => ?_) (fun cdv A outer s H vs Q E hr h => ?_)
  · obtain ⟨p, es, us, rfl, _⟩ := h
    rfl
  obtain ⟨p, es, us, rfl, hB, hl6, hc, q⟩ := h
  refine ⟨_, (pss_one (ps_ret (pe_callB (cr_all rfl) (by rfl) T.m_all (by decide +kernel) (pa_cons (pe_lc (own := [("name", 1), ("names", 2), ("body", 3)]) (g := gTup K 3 (gCons (gName 1) (gCons (gName 2) (gCons (gName 3) gNil)))) (by rfl) scis_laid.nd (pi_tup (pv 0)) (blkOk_by (own := [("name", 1), ("names", 2), ("body", 3)]) (N := ["turned", "name", "names", "body"]) (sc := defScope sis_laid) (by decide +kernel)) (fun _ _ _ _ _ => (pg_tup rfl (pgs_cons (pg_name (i := 1) scis_laid.nd rfl (Or.inl rfl)) (pgs_cons (pg_name (i := 2) scis_laid.nd rfl (Or.inl rfl)) (pgs_cons (pg_name (i := 3) scis_laid.nd rfl (Or.inl rfl)) pgs_nil))))) (fun _ _ _ _ _ => pts_nil) (fun _ _ _ _ _ => (pe_call Gis_body_laid (hr.mono (by omega)) rfl Ris_body_laid.m Ris_body_laid.k Ris_body_laid.b .nil pass0 (pa_cons (pv 3) pa_nil)))) pa_nil)))), ?_⟩
  refine ⟨_, rfl, p, rfl, ⟨_, SqT.of hB.1⟩, fun D hD => lc_tup (K := K) (a := p) (xs := us) (fun i H' => Same H H' ∧ H' D = some (.lst (((es.take i).map fun e => laidP "home" e.2.2).map V.bl))) ⟨same_new hD _, upd_same⟩ ?_ ?_ ?_⟩
  · rintro i H' _ ⟨s2, _⟩
    exact SqT.of (s2 _ _ hB.1)
  · rintro i x H2 hx ⟨s2, h2⟩
    obtain ⟨e, he, qa, r, b, rfl, g1, g2, g3⟩ := hB.2.get hx
    obtain ⟨hj, hj2⟩ := List.getElem?_eq_some_iff.mp he
    refine ⟨qa, _, rfl, SqT.of (s2 _ _ g1), rfl, _, _, rfl, _, _, rfl, _, _, rfl, rfl, rfl, ?_⟩
    dsimp only [tYes]
    refine iteT ⟨_, rfl, b, e.2.2, rfl, g3.tk (tk_same s2), hc e (mem_of_get he), fun H3 s3 => ?_⟩
    refine ⟨_, s3 _ _ h2, Nat.lt_of_le_of_lt (m := 100) (by rw [List.length_map, List.length_map, List.length_take]; omega) (by decide), same_mut (s2.trans s3) hD, ?_⟩
    rw [upd_same, List.take_succ_eq_append_getElem hj, hj2, List.map_append, List.map_append]
    rfl
  · rintro H2 ⟨s2, h2⟩
    rw [hB.2.len, List.take_length] at h2
    refine ⟨D, _, rfl, SqL.of h2, ?_⟩
    have := q H2 s2
    rw [List.all_map]
    exact this
end
end KB

namespace KB
open PySem L2 HT

/-! ### names that are around -/
def inT (xs : List Str) : Tm → Prop
  | .mk h _ k => (match h with | .nam x => x ∈ xs | _ => True) ∧ ∀ i, inT xs (k i)
theorem inT.mono {xs ys : List Str} (m : ∀ x ∈ xs, x ∈ ys) : ∀ {t : Tm}, inT xs t → inT ys t := by
  intro t
  induction t with
  | mk h n k ih =>
    rintro ⟨a, b⟩
    refine ⟨?_, fun i => ih i (b i)⟩
    cases h with
    | nam x => exact m x a
    | _ => trivial
theorem simple_mk' {h : Hd} {n : Nat} {k : Fin n → Tm} (e : simple (.mk h n k) = true) : flatHd h = true ∧ ∀ i, simple (k i) = true := by
  have hs' : (flatHd h && (List.ofFn fun i => simple (k i)).all id) = true := e
  rw [Bool.and_eq_true, List.all_eq_true] at hs'
  exact ⟨hs'.1, fun i => hs'.2 _ (List.mem_ofFn.mpr ⟨i, rfl⟩)⟩
theorem okS_inT {hd : Str → Option Nat} {xs : List Str} : ∀ {t : Tm}, simple t = true → okS hd t xs → inT xs t := by
  intro t
  induction t with
  | mk h n k ih =>
    intro hs ho
    obtain ⟨f1, f2⟩ := simple_mk' hs
    obtain ⟨o1, o2⟩ := ho
    refine ⟨?_, fun i => ih i (f2 i) ?_⟩
    · cases h with
      | nam x => exact o1
      | _ => trivial
    · have := o2 i
      cases h with
      | lett x => cases f1
      | _ => exact this
structure gT (xs : List Str) (t : Tm) : Prop where
  s : STm t
  i : inT xs t
theorem gT.mono {xs ys : List Str} (m : ∀ x ∈ xs, x ∈ ys) {t : Tm} (h : gT xs t) : gT ys t := ⟨h.s, h.i.mono m⟩
/-- words and hand-ons that are around -/
def scP : Pt → List Str → List Str → Prop
  | .give j t, xs, js => j ∈ js ∧ gT xs t
  | .ask f ts j, xs, js => j ∈ js ∧ isW f = true ∧ ts.length ≤ 4 ∧ ∀ t ∈ ts, gT xs t
  | .tell x t p, xs, js => gT xs t ∧ scP p (xs ++ [x]) js
  | .lett x t p, xs, js => gT xs t ∧ scP p (xs ++ [x]) js
  | .iff t p q, xs, js => gT xs t ∧ scP p xs js ∧ scP q xs js
  | .post j x p q, xs, js => scP p (xs ++ [x]) js ∧ scP q xs (js ++ [j])
theorem app_mono {xs ys : List Str} {x : Str} (m : ∀ z ∈ xs, z ∈ ys) : ∀ z ∈ xs ++ [x], z ∈ ys ++ [x] := fun z hz => by
  rcases List.mem_append.mp hz with q | q
  · exact List.mem_append_left _ (m z q)
  · exact List.mem_append_right _ q
theorem scP.mono : ∀ {p : Pt} {xs ys js ks : List Str}, (∀ x ∈ xs, x ∈ ys) → (∀ j ∈ js, j ∈ ks) → scP p xs js → scP p ys ks
  | .give j t, _, _, _, _, m, n, h => ⟨n _ h.1, h.2.mono m⟩
  | .ask f ts j, _, _, _, _, m, n, h => ⟨n _ h.1, h.2.1, h.2.2.1, fun t ht => (h.2.2.2 t ht).mono m⟩
  | .tell x t p, _, _, _, _, m, n, h => ⟨h.1.mono m, scP.mono (app_mono m) n h.2⟩
  | .lett x t p, _, _, _, _, m, n, h => ⟨h.1.mono m, scP.mono (app_mono m) n h.2⟩
  | .iff t p q, _, _, _, _, m, n, h => ⟨h.1.mono m, scP.mono m n h.2.1, scP.mono m n h.2.2⟩
  | .post j x p q, _, _, _, _, m, n, h => ⟨scP.mono (app_mono m) n h.1, scP.mono m (app_mono n) h.2⟩
theorem SmT.g {hd : Str → Option Nat} {xs : List Str} {t : Tm} (h : SmT hd xs t) : gT xs t := ⟨h.st, okS_inT h.si h.sc⟩
theorem okP_scP {hd : Str → Option Nat} : ∀ {p : Pt} {xs js : List Str}, okP hd p xs js → scP p xs js
  | .give j t, _, _, h => ⟨h.1, h.2.g⟩
  | .ask f ts j, _, _, h => ⟨h.1, h.2.1, h.2.2.2.1, fun t ht => (h.2.2.2.2 t ht).g⟩
  | .tell x t p, _, _, h => ⟨h.2.1.g, okP_scP h.2.2⟩
  | .lett x t p, _, _, h => ⟨h.2.1.g, okP_scP h.2.2⟩
  | .iff t p q, _, _, h => ⟨h.1.g, okP_scP h.2.1, okP_scP h.2.2⟩
  | .post j x p q, _, _, h => ⟨okP_scP h.2.2.1, okP_scP h.2.2.2⟩
/-! ### how heavy -/
def termsP : Pt → List Tm
  | .give _ t => [t]
  | .ask _ ts _ => ts
  | .tell _ t _ => [t]
  | .lett _ t _ => [t]
  | .iff t _ _ => [t]
  | .post _ _ _ _ => []
def ownW (p : Pt) : Nat := 1 + cnts (termsP p)
def wtP : Pt → Nat
  | .give j t => 1 + cnts [t]
  | .ask f ts j => 1 + cnts ts
  | .tell x t p => 1 + cnts [t] + wtP p
  | .lett x t p => 1 + cnts [t] + wtP p
  | .iff t p q => 1 + cnts [t] + wtP p + wtP q
  | .post j x p q => 1 + wtP p + wtP q
theorem pcnt_wt : ∀ p : Pt, pcnt p ≤ wtP p
  | .give j t => by show 1 ≤ 1 + _; omega
  | .ask f ts j => by show 1 ≤ 1 + _; omega
  | .tell x t p => by have := pcnt_wt p; show 1 + pcnt p ≤ 1 + cnts [t] + wtP p; omega
  | .lett x t p => by have := pcnt_wt p; show 1 + pcnt p ≤ 1 + cnts [t] + wtP p; omega
  | .iff t p q => by have := pcnt_wt p; have := pcnt_wt q; show 1 + pcnt p + pcnt q ≤ 1 + cnts [t] + wtP p + wtP q; omega
  | .post j x p q => by have := pcnt_wt p; have := pcnt_wt q; show 1 + pcnt p + pcnt q ≤ 1 + wtP p + wtP q; omega
section
variable {P : Program} {w : World} {K : PySem.W.Frag} {mg : Str → Option Value} {base : Heap}
/-! ### _law_terms -/
def spTerms : Sp := fun vs H Q _ => ∃ (a : Addr) (p : Pt), vs = [.ref a] ∧ PAt H p a ∧ ∀ H' q vs, Same H H' → H' q = some (.tup vs) → All2 (RefV H') (termsP p) vs → Q (.ref q) H'
abbrev s_law_terms : Stmt := top 25
theorem scLterms : FnScope ["part"] ["part"] (defScope s_law_terms) := ⟨rfl, rfl, rfl, by decide +kernel, rfl, by decide +kernel, by decide +kernel⟩
theorem ok_lterms (T : Txt K mg) {f : Addr} {fd : FuncData} (F : Fun K "_law_terms" "_law_terms" s_law_terms f fd) : FnOk P w K mg base CX0 1 f fd ["part"] spTerms := by
  refine F.ok scLterms (fun vs H Q E h => ?_) (fun cdv A outer s H vs Q E hr h => ?_)
  · obtain ⟨a, p, rfl, _⟩ := h
    rfl
  obtain ⟨a, p, rfl, hA, q⟩ := h
  refine ⟨_, (pss_cons (ps_if (pt_cmpR op_eq (pe_ix ix_tup (pv 0) pe_int (fun _ _ => rfl)) pe_str (nomark _)) (pss_one (ps_ret (pe_ix ix_tup (pv 0) pe_int (fun _ _ => rfl)))) pss_nil)
    (pss_cons (ps_if (pt_cmpR op_eq (pe_ix ix_tup (pv 0) pe_int (fun _ _ => rfl)) pe_str (nomark _)) (pss_one (ps_ret (pe_tup pa_nil))) pss_nil)
    (pss_one (ps_ret (pe_tup (pa_cons (pe_ix ix_tup (pv 0) (pe_ix ix_list (pe_lst (pa_cons pe_int (pa_cons pe_int pa_nil))) (pe_callTy call_int1 (by rfl) T.m_int (by decide +kernel) (pa_cons (pe_cmpR op_eq (pe_ix ix_tup (pv 0) pe_int (fun _ _ => rfl)) pe_str (nomark _)) pa_nil)) (fun _ _ => rfl)) (fun _ _ => rfl)) pa_nil)))))), ?_⟩
  have at2' : ∀ {x y z : V} {r : List V}, atI (x :: y :: z :: r) 2 = some z := at2
  cases p with
  | ask g ts j =>
    obtain ⟨b, vs, h1, h2, h3⟩ := hA
    exact ⟨_, rfl, a, _, _, _, rfl, rfl, SqT.of h1, at0, rfl, _, rfl, itT rfl ⟨_, rfl, a, _, _, _, rfl, rfl, SqT.of h1, at2, q _ b vs (Same.refl _) h2 h3⟩⟩
  | post j x p p2 =>
    obtain ⟨c, d, h1, h2, h3⟩ := hA
    exact ⟨_, rfl, a, _, _, _, rfl, rfl, SqT.of h1, at0, rfl, _, rfl, itF rfl ⟨_, rfl, a, _, _, _, rfl, rfl, SqT.of h1, at0, rfl, _, rfl, itT rfl ⟨sz (by show 0 ≤ 100000; decide), fun r hr => q _ r [] (same_new hr _) upd_same trivial⟩⟩⟩
  | give j t =>
    obtain ⟨b, h1, h2⟩ := hA
    refine ⟨_, rfl, a, _, _, _, rfl, rfl, SqT.of h1, at0, rfl, _, rfl, itF rfl ⟨_, rfl, a, _, _, _, rfl, rfl, SqT.of h1, at0, rfl, _, rfl, itF rfl ⟨_, rfl, sz (by show 2 ≤ 100000; decide), fun r hr1 => ?_⟩⟩⟩
    have s1 := same_new hr1 (.lst [V.int 2, .int 1])
    refine ⟨_, rfl, a, _, _, _, rfl, rfl, SqT.of (s1 _ _ h1), at0, rfl, .inr ⟨_, rfl, r, _, _, _, rfl, rfl, SqL.of upd_same, at0, a, _, _, _, rfl, rfl, SqT.of (s1 _ _ h1), at2, sz (by show 1 ≤ 100000; decide), fun r2 hr2 => ?_⟩⟩
    have s2 := s1.trans (same_new hr2 (.tup [.ref b]))
    exact q _ r2 _ s2 upd_same ⟨⟨b, rfl, h2.mono s2⟩, trivial⟩
  | tell x t p =>
    obtain ⟨b, c, h1, h2, h3⟩ := hA
    refine ⟨_, rfl, a, _, _, _, rfl, rfl, SqT.of h1, at0, rfl, _, rfl, itF rfl ⟨_, rfl, a, _, _, _, rfl, rfl, SqT.of h1, at0, rfl, _, rfl, itF rfl ⟨_, rfl, sz (by show 2 ≤ 100000; decide), fun r hr1 => ?_⟩⟩⟩
    have s1 := same_new hr1 (.lst [V.int 2, .int 1])
    refine ⟨_, rfl, a, _, _, _, rfl, rfl, SqT.of (s1 _ _ h1), at0, rfl, .inr ⟨_, rfl, r, _, _, _, rfl, rfl, SqL.of upd_same, at0, a, _, _, _, rfl, rfl, SqT.of (s1 _ _ h1), at2, sz (by show 1 ≤ 100000; decide), fun r2 hr2 => ?_⟩⟩
    have s2 := s1.trans (same_new hr2 (.tup [.ref b]))
    exact q _ r2 _ s2 upd_same ⟨⟨b, rfl, h2.mono s2⟩, trivial⟩
  | lett x t p =>
    obtain ⟨b, c, h1, h2, h3⟩ := hA
    refine ⟨_, rfl, a, _, _, _, rfl, rfl, SqT.of h1, at0, rfl, _, rfl, itF rfl ⟨_, rfl, a, _, _, _, rfl, rfl, SqT.of h1, at0, rfl, _, rfl, itF rfl ⟨_, rfl, sz (by show 2 ≤ 100000; decide), fun r hr1 => ?_⟩⟩⟩
    have s1 := same_new hr1 (.lst [V.int 2, .int 1])
    refine ⟨_, rfl, a, _, _, _, rfl, rfl, SqT.of (s1 _ _ h1), at0, rfl, .inr ⟨_, rfl, r, _, _, _, rfl, rfl, SqL.of upd_same, at0, a, _, _, _, rfl, rfl, SqT.of (s1 _ _ h1), at2, sz (by show 1 ≤ 100000; decide), fun r2 hr2 => ?_⟩⟩
    have s2 := s1.trans (same_new hr2 (.tup [.ref b]))
    exact q _ r2 _ s2 upd_same ⟨⟨b, rfl, h2.mono s2⟩, trivial⟩
  | iff t p p2 =>
    obtain ⟨b, c, d, h1, h2, h3, h4⟩ := hA
    refine ⟨_, rfl, a, _, _, _, rfl, rfl, SqT.of h1, at0, rfl, _, rfl, itF rfl ⟨_, rfl, a, _, _, _, rfl, rfl, SqT.of h1, at0, rfl, _, rfl, itF rfl ⟨_, rfl, sz (by show 2 ≤ 100000; decide), fun r hr1 => ?_⟩⟩⟩
    have s1 := same_new hr1 (.lst [V.int 2, .int 1])
    refine ⟨_, rfl, a, _, _, _, rfl, rfl, SqT.of (s1 _ _ h1), at0, rfl, .inr ⟨_, rfl, r, _, _, _, rfl, rfl, SqL.of upd_same, at1, a, _, _, _, rfl, rfl, SqT.of (s1 _ _ h1), at1, sz (by show 1 ≤ 100000; decide), fun r2 hr2 => ?_⟩⟩
    have s2 := s1.trans (same_new hr2 (.tup [.ref b]))
    exact q _ r2 _ s2 upd_same ⟨⟨b, rfl, h2.mono s2⟩, trivial⟩
/-! ### _law_size -/
def spSize (n : Nat) : Sp := fun vs H Q _ => ∃ (a : Addr) (t : Tm), vs = [.ref a] ∧ At H t a ∧ simple t = true ∧ HtLe n t ∧ cnt t ≤ 100 ∧ ∀ H', Same H H' → Q (.int (cnt t)) H'
abbrev s_law_size : Stmt := top 26
theorem scLsize : FnScope ["term", "one"] ["term"] (defScope s_law_size) := ⟨rfl, rfl, rfl, by decide +kernel, rfl, by decide +kernel, by decide +kernel⟩
theorem sum_cnts (ts : List Tm) : (ts.map fun t => (cnt t : Int)).sum = (cnts ts : Int) := by
  induction ts with
  | nil => rfl
  | cons t r ih =>
    rw [List.map_cons, List.sum_cons, ih, cnts_cons]
    omega
theorem ok_size (T : Txt K mg) (msum : mg "sum" = none) (n : Nat) {f : Addr} {fd : FuncData} (F : Fun K "_law_size" "_law_size" s_law_size f fd) (G_law_size : FnOk P w K mg base CX0 n f fd ["term"] (spSize n)) (R_law_size : Ref K mg "_law_size" f fd ["term"]) : FnOk P w K mg base CX0 (n + 1) f fd ["term"] (spSize (n + 1)) := by
  refine F.ok scLsize (fun vs H Q E h => ?_) (fun cdv A outer s H vs Q E hr h => ?_)
  · obtain ⟨a, t, rfl, _⟩ := h
    rfl
  obtain ⟨a, t, rfl, hA, hs, hh, hc, q⟩ := h
  refine ⟨_, (pss_cons (ps_if (PW.pt (pw_or (pt_cmpR op_eq (pe_ix ix_tup (pv 0) pe_int (fun _ _ => rfl)) pe_str (nomark _)) (pw_or1 (pt_cmpR op_eq (pe_ix ix_tup (pv 0) pe_int (fun _ _ => rfl)) pe_str (nomark _))))) (pss_one (ps_ret pe_int)) pss_nil)
    (pss_one (ps_ret (pe_op op_add pe_int (pe_callB (cr_sum rfl) (by rfl) msum (by decide +kernel) (pa_cons (pe_lc (own := [("one", 1)]) (g := gName 1) (by rfl) scLsize.nd (pi_tup (pe_slice sl_tupA (pv 0) (po_some pe_int) po_none)) (blkOk_by (own := [("one", 1)]) (N := ["term", "one"]) (sc := defScope s_law_size) (by decide +kernel)) (fun _ _ _ _ _ => (pg_name (i := 1) scLsize.nd rfl (Or.inl rfl))) (fun _ _ _ _ _ => pts_nil) (fun _ _ _ _ _ => (pe_call G_law_size (hr.mono (by omega)) rfl R_law_size.m R_law_size.k R_law_size.b .nil pass0 (pa_cons (pv 1) pa_nil)))) pa_nil)))))), ?_⟩
  cases t with
  | mk h m k =>
    obtain ⟨ys, l, r⟩ := hA
    obtain ⟨r0, hhd⟩ := l.head
    obtain ⟨f1, f2⟩ := simple_mk' hs
    have hcm := cnt_mk (h := h) (k := k)
    have e0 : (Rfs ys).length = m := by
      unfold Rfs
      rw [List.length_ofFn]
    refine ⟨_, rfl, a, _, _, _, rfl, rfl, SqT.of hhd, at0, rfl, _, rfl, ?_⟩
    cases h with
    | num z =>
      have hm : m = 0 := by rw [← e0, l.1]; rfl
      subst hm
      refine itT rfl ?_
      exact q H (Same.refl H)
    | nam x =>
      have hm : m = 0 := by rw [← e0, l.1]; rfl
      subst hm
      refine itF rfl ⟨_, rfl, a, _, _, _, rfl, rfl, SqT.of hhd, at0, rfl, _, rfl, itT rfl ?_⟩
      exact q H (Same.refl H)
    | tell => exact absurd f1 (by decide)
    | lett x => exact absurd f1 Bool.false_ne_true
    | iff => exact absurd f1 (by decide)
    | ask g => exact absurd f1 Bool.false_ne_true
    | plus | less =>
      have hm : m = 2 := by rw [← e0]; exact l.1
      subst hm
      refine itF rfl ⟨_, rfl, a, _, _, _, rfl, rfl, SqT.of hhd, at0, rfl, _, rfl, itF rfl ?_⟩
      refine ⟨_, rfl, _, rfl, ?_⟩
      dsimp only [tNoPart]
      refine slA_of (K := K) (lo := some 1) (hi := none) l.2 fun p1 H1 s1 h1 => ?_
      rw [show ∀ z : V, cutV (z :: Rfs ys) (some 1) none = Rfs ys from fun z => cut1] at h1
      refine ⟨p1, rfl, ⟨_, SqT.of h1⟩, fun D hD => lc_tup (K := K) (a := p1) (xs := Rfs ys) (fun i H' => Same H1 H' ∧ H' D = some (.lst ((((List.ofFn k).take i).map fun t => (cnt t : Int)).map V.int))) ⟨same_new hD _, upd_same⟩ ?_ ?_ ?_⟩
      · rintro i H' _ ⟨s2, _⟩
        exact SqT.of (s2 _ _ h1)
      · rintro i x H2 hx ⟨s2, h2⟩
        obtain ⟨u, hu, b, rfl, hb⟩ := (all2_fn r).get hx
        obtain ⟨hj, hj2⟩ := List.getElem?_eq_some_iff.mp hu
        have hj3 : i < 2 := by simpa using hj
        obtain ⟨fi, rfl⟩ := List.mem_ofFn.mp (mem_of_get hu)
        have hcu := cnt_mem (mem_of_get hu)
        refine ⟨rfl, ?_⟩
        dsimp only [tYes]
        refine iteT ⟨_, rfl, b, k fi, rfl, hb.mono (s1.trans s2), f2 fi, hh fi, by omega, fun H3 s3 => ?_⟩
        refine ⟨_, s3 _ _ h2, Nat.lt_of_le_of_lt (m := 100) (by rw [List.length_map, List.length_map, List.length_take]; omega) (by decide), same_mut (s2.trans s3) hD, ?_⟩
        rw [upd_same, List.take_succ_eq_append_getElem hj, hj2, List.map_append, List.map_append]
        rfl
      · rintro H2 ⟨s2, h2⟩
        rw [show (Rfs ys).length = (List.ofFn k).length from by rw [e0]; simp, List.take_length] at h2
        refine ⟨D, _, rfl, SqL.of h2, _, _, rfl, rfl, ?_⟩
        rw [sum_cnts]
        have := q H2 (s1.trans s2)
        rw [hcm] at this
        exact this
theorem no_size {f : Addr} {fd : FuncData} : FnOk P w K mg base CX0 0 f fd ["term"] (spSize 0) :=
  ⟨fun vs H Q E h => (by obtain ⟨a, t, rfl, _⟩ := h; rfl), fun _ _ _ _ _ _ _ _ _ _ _ _ _ h => (by obtain ⟨_, t, _, _, _, hh, _⟩ := h; exact hh.elim)⟩
theorem all_size (T : Txt K mg) (msum : mg "sum" = none) {f : Addr} {fd : FuncData} (F : Fun K "_law_size" "_law_size" s_law_size f fd) (R_law_size : Ref K mg "_law_size" f fd ["term"]) : ∀ n : Nat, FnOk P w K mg base CX0 n f fd ["term"] (spSize n)
  | 0 => no_size
  | n + 1 => ok_size T msum n F (all_size T msum F R_law_size n) R_law_size
end
end KB

namespace KB
open PySem L2 HT

/-! ### how deep -/
def htP : Pt → Nat
  | .give _ _ => 1
  | .ask _ _ _ => 1
  | .tell _ _ p => 1 + htP p
  | .lett _ _ p => 1 + htP p
  | .iff _ p q => 1 + max (htP p) (htP q)
  | .post _ _ p q => 1 + max (htP p) (htP q)
theorem htP_le : ∀ p : Pt, htP p ≤ pcnt p
  | .give _ _ => Nat.le_refl _
  | .ask _ _ _ => Nat.le_refl _
  | .tell _ _ p => by have := htP_le p; show 1 + htP p ≤ 1 + pcnt p; omega
  | .lett _ _ p => by have := htP_le p; show 1 + htP p ≤ 1 + pcnt p; omega
  | .iff _ p q => by have := htP_le p; have := htP_le q; show 1 + max (htP p) (htP q) ≤ 1 + pcnt p + pcnt q; omega
  | .post _ _ p q => by have := htP_le p; have := htP_le q; show 1 + max (htP p) (htP q) ≤ 1 + pcnt p + pcnt q; omega
/-! ### hand-ons that are around, as data -/
inductive Hn | home | add (j x : Str) (T : Pt) (r : Hn)
def look : Hn → Str → Option (Option (Str × Pt × Hn))
  | .home, y => if y = "home" then some none else none
  | .add j x T r, y => if y = j then some (some (x, T, r)) else look r y
def dom : Hn → List Str
  | .home => ["home"]
  | .add j _ _ r => dom r ++ [j]
def Hm : Hn → Nat
  | .home => 0
  | .add _ _ T r => pcnt T + Hm r
def HnS : Hn → List Str → Prop
  | .home, _ => True
  | .add _ x T r, xs => scP T (xs ++ [x]) (dom r) ∧ HnS r xs
theorem look_dom : ∀ {hn : Hn} {j : Str}, j ∈ dom hn → ∃ o, look hn j = some o
  | .home, j, h => ⟨none, if_pos (List.mem_singleton.mp h)⟩
  | .add i x T r, j, h => by
    by_cases c : j = i
    · exact ⟨_, if_pos c⟩
    · rcases List.mem_append.mp h with z | z
      · obtain ⟨o, ho⟩ := look_dom z
        exact ⟨o, (if_neg c).trans ho⟩
      · exact absurd (List.mem_singleton.mp z) c
theorem HnS.mono {xs ys : List Str} (m : ∀ x ∈ xs, x ∈ ys) : ∀ {hn : Hn}, HnS hn xs → HnS hn ys
  | .home, _ => trivial
  | .add _ _ _ _, h => ⟨h.1.mono (app_mono m) (fun _ z => z), HnS.mono m h.2⟩
theorem HnS.look {xs : List Str} : ∀ {hn : Hn} {j x : Str} {T : Pt} {r : Hn}, HnS hn xs → look hn j = some (some (x, T, r)) → scP T (xs ++ [x]) (dom r) ∧ HnS r xs ∧ pcnt T + Hm r ≤ Hm hn
  | .home, j, x, T, r, _, h => by
    have h : (if j = "home" then some none else none) = some (some (x, T, r)) := h
    by_cases c : j = "home"
    · rw [if_pos c] at h; cases h
    · rw [if_neg c] at h; cases h
  | .add i y U q, j, x, T, r, hs, h => by
    have h : (if j = i then some (some (y, U, q)) else KB.look q j) = some (some (x, T, r)) := h
    by_cases c : j = i
    · rw [if_pos c] at h
      cases h
      exact ⟨hs.1, hs.2, Nat.le_refl _⟩
    · rw [if_neg c] at h
      obtain ⟨a, b, d⟩ := HnS.look hs.2 h
      exact ⟨a, b, by show _ ≤ pcnt U + Hm q; omega⟩
def HnAt (H : Hp) : Hn → Addr → Prop
  | .home, a => ∃ kvs : List (Key × V), H a = some (.dK kvs) ∧ kvs.length ≤ 1 ∧ ∀ y : Str, valV kvs (Sum.inr y) = if y = "home" then some .non else none
  | .add j x T r, a => ∃ (kvs kvs0 : List (Key × V)) (d q b : Addr), H a = some (.dK kvs) ∧ kvs.length ≤ (dom r).length + 1 ∧ HnAt H r d ∧ H d = some (.dK kvs0) ∧ H q = some (.tup [.str x, .ref b, .ref d]) ∧ PAt H T b ∧ ∀ y : Str, valV kvs (Sum.inr y) = if y = j then some (.ref q) else valV kvs0 (Sum.inr y)
theorem HnAt.get {H : Hp} : ∀ {hn : Hn} {a : Addr} {y : Str} {o : Option (Str × Pt × Hn)}, HnAt H hn a → look hn y = some o → ∃ (kvs : List (Key × V)) (v : V), H a = some (.dK kvs) ∧ valV kvs (Sum.inr y) = some v ∧
    (o = none → v = .non) ∧ ∀ x T r, o = some (x, T, r) → ∃ q b d, v = .ref q ∧ H q = some (.tup [.str x, .ref b, .ref d]) ∧ PAt H T b ∧ HnAt H r d
  | .home, a, y, o, ⟨kvs, h1, _, h2⟩, l => by
    have l : (if y = "home" then some none else none) = some o := l
    by_cases c : y = "home"
    · rw [if_pos c] at l
      cases l
      exact ⟨kvs, .non, h1, by rw [h2, if_pos c], fun _ => rfl, fun x T r z => by cases z⟩
    · rw [if_neg c] at l; cases l
  | .add j x T r, a, y, o, ⟨kvs, kvs0, d, q, b, h1, _, h2, h3, h4, h5, h6⟩, l => by
    have l : (if y = j then some (some (x, T, r)) else look r y) = some o := l
    by_cases c : y = j
    · rw [if_pos c] at l
      cases l
      exact ⟨kvs, .ref q, h1, by rw [h6, if_pos c], (fun z => by cases z), fun x' T' r' z => by cases z; exact ⟨q, b, d, rfl, h4, h5, h2⟩⟩
    · rw [if_neg c] at l
      obtain ⟨kvs', v, g1, g2, g3, g4⟩ := HnAt.get h2 l
      rw [h3] at g1
      cases g1
      exact ⟨kvs, v, h1, by rw [h6, if_neg c]; exact g2, g3, g4⟩
theorem HnAt.hm {H : Hp} : ∀ {hn : Hn} {a : Addr}, HnAt H hn a → ∃ (kvs : List (Key × V)) (v : V), H a = some (.dK kvs) ∧ valV kvs (Sum.inr "home") = some v ∧ kvs.length ≤ (dom hn).length
  | .home, a, ⟨kvs, h1, h0, h2⟩ => ⟨kvs, .non, h1, by rw [h2, if_pos rfl], h0⟩
  | .add j x T r, a, ⟨kvs, kvs0, d, q, b, h1, h0, h2, h3, h4, h5, h6⟩ => by
    have h0' : kvs.length ≤ (dom (.add j x T r)).length := by show _ ≤ (dom r ++ [j]).length; rw [List.length_append]; exact h0
    obtain ⟨kvs', v, g1, g2, _⟩ := HnAt.hm h2
    rw [h3] at g1
    cases g1
    by_cases c : ("home" : Str) = j
    · exact ⟨kvs, .ref q, h1, by rw [h6, if_pos c], h0'⟩
    · exact ⟨kvs, v, h1, by rw [h6, if_neg c]; exact g2, h0'⟩
abbrev kMany : Key := Sum.inr "many"
def mnL (m : Nat) : List (Key × V) := [(kMany, .int m)]
theorem mn_home (m : Nat) : valV (mnL m) (Sum.inr "home") = none := valV_neg (r := []) (by show ¬ (Sum.inr "many" : Key) = (Sum.inr "home" : Key); decide +kernel)
theorem HnAt.ne {H : Hp} {hn : Hn} {a nw : Addr} {m : Nat} (h : HnAt H hn a) (hw : H nw = some (.dK (mnL m))) : a ≠ nw := fun z => by
  obtain ⟨kvs, v, h1, h2, _⟩ := h.hm
  rw [z, hw] at h1
  cases h1
  rw [mn_home] at h2
  cases h2
theorem But1.tkD {nw : Addr} {H H' : Hp} {kvs : List (Key × V)} (hw : H nw = some (.dK kvs)) (e : But1 nw H H') : TK H H' := fun a xs h => e a _ (fun z => by rw [z, hw] at h; cases h) h
theorem HnAt.but {H H' : Hp} {nw : Addr} {m : Nat} (hw : H nw = some (.dK (mnL m))) (e : But1 nw H H') : ∀ {hn : Hn} {a : Addr}, HnAt H hn a → HnAt H' hn a
  | .home, a, h => by
    have n := HnAt.ne h hw
    obtain ⟨kvs, h1, h0, h2⟩ := h
    exact ⟨kvs, e _ _ n h1, h0, h2⟩
  | .add j x T r, a, h => by
    have n := HnAt.ne h hw
    obtain ⟨kvs, kvs0, d, q, b, h1, h0, h2, h3, h4, h5, h6⟩ := h
    have n2 := HnAt.ne h2 hw
    have tk := But1.tkD hw e
    exact ⟨kvs, kvs0, d, q, b, e _ _ n h1, h0, HnAt.but hw e h2, e _ _ n2 h3, tk _ _ h4, h5.tk tk, h6⟩
theorem dom_len : ∀ hn : Hn, (dom hn).length ≤ 1 + Hm hn
  | .home => Nat.le_refl 1
  | .add j x T r => by
    have := dom_len r
    have h1 := pc_pos T
    show (dom r ++ [j]).length ≤ 1 + (pcnt T + Hm r)
    rw [List.length_append, List.length_singleton]
    omega
theorem putK_len (kvs : List (Key × V)) (k : Key) (v : V) : (putK kvs k v).length ≤ kvs.length + 1 := by
  exact length_putK kvs k v
theorem sc_terms {p : Pt} {xs js : List Str} (h : scP p xs js) : (∀ t ∈ termsP p, gT xs t) ∧ (termsP p).length ≤ 4 := by
  cases p with
  | give j t => exact ⟨fun u hu => by rw [List.mem_singleton.mp hu]; exact h.2, by show 1 ≤ 4; omega⟩
  | ask f ts j => exact ⟨h.2.2.2, h.2.2.1⟩
  | tell x t p => exact ⟨fun u hu => by rw [List.mem_singleton.mp hu]; exact h.1, by show 1 ≤ 4; omega⟩
  | lett x t p => exact ⟨fun u hu => by rw [List.mem_singleton.mp hu]; exact h.1, by show 1 ≤ 4; omega⟩
  | iff t p q => exact ⟨fun u hu => by rw [List.mem_singleton.mp hu]; exact h.1, by show 1 ≤ 4; omega⟩
  | post j x p q => exact ⟨(fun u hu => by cases hu), Nat.zero_le _⟩
theorem but_put {nw : Addr} {H H' : Hp} {o : HO} (s : Same H H') : But1 nw H (upd H' nw o) := fun b u n h => by
  rw [upd_ne n]
  exact s _ _ h
section
variable {P : Program} {w : World} {K : PySem.W.Frag} {mg : Str → Option Value} {base : Heap}
/-! ### _law_lay -/
def spLay (n : Nat) : Sp := fun vs H Q _ => ∃ (nw a hl : Addr) (p : Pt) (hn : Hn) (xs : List Str) (m : Nat), vs = [.ref nw, .ref a, .ref hl] ∧ PAt H p a ∧ scP p xs (dom hn) ∧ HnAt H hn hl ∧ HnS hn xs ∧ pcnt p + Hm hn ≤ n ∧ pcnt p + Hm hn ≤ 100 ∧ H nw = some (.dK (mnL m)) ∧
  ∀ H' r p' m', But1 nw H H' → H' nw = some (.dK (mnL m')) → m ≤ m' → (m' ≤ 200 → scP p' xs ["home"] ∧ wtP p' + m = m') → htP p' ≤ 2 * (pcnt p + Hm hn) → PAt H' p' r → Q (.ref r) H'
abbrev s_law_lay : Stmt := top 30
theorem scLlay : FnScope ["now", "part", "hands", "inner", "more", "one", "at", "hand", "x", "then", "around"] ["now", "part", "hands"] (defScope s_law_lay) := ⟨rfl, rfl, rfl, by decide +kernel, rfl, by decide +kernel, by decide +kernel⟩
theorem ok_lay (T : Txt K mg) (msum : mg "sum" = none) {n : Nat} {f f1 f2 : Addr} {fd d1 d2 : FuncData} (F : Fun K "_law_lay" "_law_lay" s_law_lay f fd) (G_law_lay : FnOk P w K mg base CX0 (n + 4) f fd ["now", "part", "hands"] (spLay n)) (R_law_lay : Ref K mg "_law_lay" f fd ["now", "part", "hands"])
    (G_law_terms : FnOk P w K mg base CX0 1 f1 d1 ["part"] spTerms) (R_law_terms : Ref K mg "_law_terms" f1 d1 ["part"]) (G_law_size : FnOk P w K mg base CX0 2 f2 d2 ["term"] (spSize 2)) (R_law_size : Ref K mg "_law_size" f2 d2 ["term"]) : FnOk P w K mg base CX0 (n + 5) f fd ["now", "part", "hands"] (spLay (n + 1)) := by
  refine F.ok scLlay (fun vs H Q E h => ?_) (fun cdv A outer s H vs Q E hr h => ?_)
  · obtain ⟨nw, a, hl, p, hn, xs, m, rfl, _⟩ := h
    rfl
  obtain ⟨nw, a, hl, p, hn, xs, m, rfl, hA, hsc, hH, hS, hn1, hn100, hw, q⟩ := h
  refine ⟨_, (pss_cons (ps_if (pt_cmpR op_eq (pe_ix ix_tup (pv 1) pe_int (fun _ _ => rfl)) pe_str (nomark _)) (pss_cons (ps_set (i := 3) scLlay.nd rfl (Or.inl rfl) (pe_callTy call_dictD (by rfl) T.m_dict (by decide +kernel) (pa_cons (pv 2) pa_nil)))
    (pss_cons (ps_dput (hu_of hr) (pv 3) (pe_ix ix_tup (pv 1) pe_int (fun _ _ => rfl)) (pe_tup (pa_cons (pe_ix ix_tup (pv 1) pe_int (fun _ _ => rfl)) (pa_cons (pe_ix ix_tup (pv 1) pe_int (fun _ _ => rfl)) (pa_cons (pv 2) pa_nil)))) rfl)
    (pss_one (ps_ret (pe_call G_law_lay (hr.mono (by omega)) rfl R_law_lay.m R_law_lay.k R_law_lay.b .nil pass0 (pa_cons (pv 0) (pa_cons (pe_ix ix_tup (pv 1) pe_int (fun _ _ => rfl)) (pa_cons (pv 3) pa_nil)))))))) pss_nil)
    (pss_cons (ps_set (i := 4) scLlay.nd rfl (Or.inl rfl) (pe_callB (cr_sum rfl) (by rfl) msum (by decide +kernel) (pa_cons (pe_lc (own := [("one", 5)]) (g := gName 5) (by rfl) scLlay.nd (pi_tup (pe_call G_law_terms (hr.mono (by omega)) rfl R_law_terms.m R_law_terms.k R_law_terms.b .nil pass0 (pa_cons (pv 1) pa_nil))) (blkOk_by (own := [("one", 5)]) (N := ["now", "part", "hands", "inner", "more", "one", "at", "hand", "x", "then", "around"]) (sc := defScope s_law_lay) (by decide +kernel)) (fun _ _ _ _ _ => (pg_name (i := 5) scLlay.nd rfl (Or.inl rfl))) (fun _ _ _ _ _ => pts_nil) (fun _ _ _ _ _ => (pe_call G_law_size (hr.mono (by omega)) rfl R_law_size.m R_law_size.k R_law_size.b .nil pass0 (pa_cons (pv 5) pa_nil)))) pa_nil)))
    (pss_cons (ps_dput (hu_of hr) (pv 0) pe_str (pe_op op_add (pe_op op_add (pe_dget (hu_of hr) (pv 0) pe_str (fun _ _ => rfl)) pe_int) (pv 4)) rfl)
    (pss_cons (ps_if (pt_cmpR op_gt (pe_dget (hu_of hr) (pv 0) pe_str (fun _ _ => rfl)) pe_int (nomark _)) (pss_one (ps_ret (pv 1))) pss_nil)
    (pss_cons (ps_if (pt_cmpR op_eq (pe_ix ix_tup (pv 1) pe_int (fun _ _ => rfl)) pe_str (nomark _)) (pss_cons (ps_set (i := 5) scLlay.nd rfl (Or.inl rfl) (pe_call G_law_lay (hr.mono (by omega)) rfl R_law_lay.m R_law_lay.k R_law_lay.b .nil pass0 (pa_cons (pv 0) (pa_cons (pe_ix ix_tup (pv 1) pe_int (fun _ _ => rfl)) (pa_cons (pv 2) pa_nil)))))
    (pss_one (ps_ret (pe_op op_catA (pe_slice sl_tupA (pv 1) po_none (po_some pe_int)) (pe_tup (pa_cons (pv 5) (pa_cons (pe_call G_law_lay (hr.mono (by omega)) rfl R_law_lay.m R_law_lay.k R_law_lay.b .nil pass0 (pa_cons (pv 0) (pa_cons (pe_ix ix_tup (pv 1) pe_int (fun _ _ => rfl)) (pa_cons (pv 2) pa_nil)))) pa_nil))))))) pss_nil)
    (pss_cons (ps_if (PW.pt (pw_or (pt_cmpR op_eq (pe_ix ix_tup (pv 1) pe_int (fun _ _ => rfl)) pe_str (nomark _)) (pw_or1 (pt_cmpR op_eq (pe_ix ix_tup (pv 1) pe_int (fun _ _ => rfl)) pe_str (nomark _))))) (pss_one (ps_ret (pe_op op_catA (pe_slice sl_tupA (pv 1) po_none (po_some pe_int)) (pe_tup (pa_cons (pe_call G_law_lay (hr.mono (by omega)) rfl R_law_lay.m R_law_lay.k R_law_lay.b .nil pass0 (pa_cons (pv 0) (pa_cons (pe_ix ix_tup (pv 1) pe_int (fun _ _ => rfl)) (pa_cons (pv 2) pa_nil)))) pa_nil))))) pss_nil)
    (pss_cons (ps_set (i := 6) scLlay.nd rfl (Or.inl rfl) (pe_op op_add pe_int (pe_op op_mul pe_int (pe_callTy call_int1 (by rfl) T.m_int (by decide +kernel) (pa_cons (pe_cmpR op_eq (pe_ix ix_tup (pv 1) pe_int (fun _ _ => rfl)) pe_str (nomark _)) pa_nil)))))
    (pss_cons (ps_set (i := 7) scLlay.nd rfl (Or.inl rfl) (pe_dget (hu_of hr) (pv 2) (pe_ix ix_tup (pv 1) (pv 6) (fun _ _ => rfl)) (fun _ _ => rfl)))
    (pss_cons (ps_if (pt_cmpR op_isN (pv 7) pe_non (nomark _)) (pss_one (ps_ret (pe_op op_catA (pe_op op_catA (pe_slice sl_tupA (pv 1) po_none (po_some (pv 6))) (pe_tup (pa_cons pe_str pa_nil))) (pe_slice sl_tupA (pv 1) (po_some (pe_op op_add (pv 6) pe_int)) po_none)))) pss_nil)
    (pss_cons (ps_asg (pv 7) (pg_tup rfl (pgs_cons (pg_name (i := 8) scLlay.nd rfl (Or.inl rfl)) (pgs_cons (pg_name (i := 9) scLlay.nd rfl (Or.inl rfl)) (pgs_cons (pg_name (i := 10) scLlay.nd rfl (Or.inl rfl)) pgs_nil)))))
    (pss_cons (ps_if (pt_cmpR op_eq (pe_ix ix_tup (pv 1) pe_int (fun _ _ => rfl)) pe_str (nomark _)) (pss_one (ps_ret (pe_tup (pa_cons pe_str (pa_cons (pv 8) (pa_cons (pe_ix ix_tup (pv 1) pe_int (fun _ _ => rfl)) (pa_cons (pe_call G_law_lay (hr.mono (by omega)) rfl R_law_lay.m R_law_lay.k R_law_lay.b .nil pass0 (pa_cons (pv 0) (pa_cons (pv 9) (pa_cons (pv 10) pa_nil)))) pa_nil))))))) pss_nil)
    (pss_cons (ps_dput (hu_of hr) (pv 0) pe_str (pe_op op_add (pe_dget (hu_of hr) (pv 0) pe_str (fun _ _ => rfl)) pe_int) rfl)
    (pss_cons (ps_set (i := 3) scLlay.nd rfl (Or.inl rfl) (pe_call G_law_lay (hr.mono (by omega)) rfl R_law_lay.m R_law_lay.k R_law_lay.b .nil pass0 (pa_cons (pv 0) (pa_cons (pv 9) (pa_cons (pv 10) pa_nil)))))
    (pss_one (ps_ret (pe_tup (pa_cons pe_str (pa_cons pe_str (pa_cons (pv 8) (pa_cons (pv 3) (pa_cons (pe_op op_catA (pe_slice sl_tupA (pv 1) po_none (po_some pe_int)) (pe_tup (pa_cons pe_str pa_nil))) pa_nil))))))))))))))))))))), ?_⟩
  have big : ∀ {k : Nat}, k ≤ 1000 → k < sizeLine := fun h => Nat.lt_of_le_of_lt h (by decide)
  obtain ⟨r0, hd⟩ := hA.head
  refine ⟨_, rfl, a, _, _, _, rfl, rfl, SqT.of hd, at0, rfl, _, rfl, ?_⟩
  show if decide (V.str (hsP p) = V.str "post") = true then _ else _
  rw [hsP_post_is]
  cases hpp : isPostP p with
  | true =>
    obtain ⟨j, x, U, p2, rfl⟩ : ∃ j x p1 p2, p = .post j x p1 p2 := by
      cases p with
      | post j x p1 p2 => exact ⟨j, x, p1, p2, rfl⟩
      | _ => cases hpp
    obtain ⟨ca, da, h1, h2, h3⟩ := hA
    obtain ⟨kvs0, v0, hk0, hv0, hkl⟩ := hH.hm
    refine itT rfl ⟨_, rfl, hl, kvs0, rfl, .inl hk0, fun inn hin => ?_⟩
    have s1 := same_new hin (.dK kvs0)
    refine ⟨_, rfl, a, _, _, _, rfl, rfl, SqT.of (s1 _ _ h1), at2, _, rfl, a, _, _, _, rfl, rfl, SqT.of (s1 _ _ h1), at3, _, rfl, sz (by show 3 ≤ 100000; decide), fun q0 hq0 => ?_⟩
    have s2 := same_new hq0 (.tup [.str x, .ref ca, .ref hl])
    have hdl := dom_len hn
    have hpc : pcnt (Pt.post j x U p2) = 1 + pcnt U + pcnt p2 := rfl
    refine ⟨_, rfl, _, rfl, a, _, _, _, rfl, rfl, SqT.of ((s1.trans s2) _ _ h1), at1, inn, _, rfl, DPut.k (k := Sum.inr j) (s2 _ _ upd_same) (big (by omega)), ?_⟩
    have s12 : Same H (upd (upd (upd H inn (.dK kvs0)) q0 (.tup [.str x, .ref ca, .ref hl])) inn (.dK (putK kvs0 (Sum.inr j) (.ref q0)))) := same_mut (s1.trans s2) hin
    have nq : q0 ≠ inn := (ne_of_none (upd_same : upd H inn (.dK kvs0) inn = some (.dK kvs0)) hq0).symm
    have hq : upd (upd (upd H inn (.dK kvs0)) q0 (.tup [.str x, .ref ca, .ref hl])) inn (.dK (putK kvs0 (Sum.inr j) (.ref q0))) q0 = some (.tup [.str x, .ref ca, .ref hl]) := by rw [upd_ne nq, upd_same]
    have hi : upd (upd (upd H inn (.dK kvs0)) q0 (.tup [.str x, .ref ca, .ref hl])) inn (.dK (putK kvs0 (Sum.inr j) (.ref q0))) inn = some (.dK (putK kvs0 (Sum.inr j) (.ref q0))) := upd_same
    clear s1 s2 hq0
    generalize upd (upd (upd H inn (.dK kvs0)) q0 (.tup [.str x, .ref ca, .ref hl])) inn (.dK (putK kvs0 (Sum.inr j) (.ref q0))) = H3 at s12 hq hi
    have b3 : But1 nw H H3 := but_same s12
    have tk3 := tk_same s12
    have hH3 : HnAt H3 (.add j x U hn) inn := by
      refine ⟨_, kvs0, hl, q0, ca, hi, ?_, hH.but hw b3, s12 _ _ hk0, hq, h2.tk tk3, fun y => ?_⟩
      · have := putK_len kvs0 (Sum.inr j) (.ref q0)
        omega
      · rw [valV_put]
        by_cases c : y = j
        · rw [if_pos (congrArg Sum.inr c), if_pos c]
        · rw [if_neg (fun z => c (Sum.inr.inj z)), if_neg c]
    refine ⟨_, rfl, _, rfl, a, _, _, _, rfl, rfl, SqT.of (s12 _ _ h1), at4, _, rfl, nw, da, inn, p2, .add j x U hn, xs, m, rfl, h3.tk tk3, hsc.2, hH3, ⟨hsc.1, hS⟩, ?_, ?_, s12 _ _ hw, fun H4 r p' m' b4 hw4 hm hg ht hp' => q H4 r p' m' (b3.trans b4) hw4 hm hg (by have e : pcnt p2 + Hm (.add j x U hn) = pcnt p2 + (pcnt U + Hm hn) := rfl; omega) hp'⟩
    · show pcnt p2 + (pcnt U + Hm hn) ≤ n
      omega
    · show pcnt p2 + (pcnt U + Hm hn) ≤ 100
      omega
  | false =>
    refine itF rfl ?_
    obtain ⟨gts, gl⟩ := sc_terms hsc
    -- more
    refine ⟨_, rfl, a, p, rfl, hA, fun H1 tq us s1 h1 k1 => ?_⟩
    refine ⟨tq, rfl, ⟨_, SqT.of h1⟩, fun D hD => lc_tup (K := K) (a := tq) (xs := us) (fun i H' => Same H1 H' ∧ H' D = some (.lst ((((termsP p).take i).map fun t => (cnt t : Int)).map V.int))) ⟨same_new hD _, upd_same⟩ ?_ ?_ ?_⟩
    · rintro i H' _ ⟨s2, _⟩
      exact SqT.of (s2 _ _ h1)
    · rintro i y H2 hy ⟨s2, h2⟩
      obtain ⟨u, hu, b, rfl, hb⟩ := k1.get hy
      obtain ⟨hj, hj2⟩ := List.getElem?_eq_some_iff.mp hu
      have gu := (gts u (mem_of_get hu)).s
      refine ⟨rfl, ?_⟩
      dsimp only [tYes]
      refine iteT ⟨_, rfl, b, u, rfl, hb.mono s2, gu.si, gu.ht, Nat.le_trans gu.cn (by decide), fun H3 s3 => ?_⟩
      refine ⟨_, s3 _ _ h2, Nat.lt_of_le_of_lt (m := 100) (by rw [List.length_map, List.length_map, List.length_take]; omega) (by decide), same_mut (s2.trans s3) hD, ?_⟩
      rw [upd_same, List.take_succ_eq_append_getElem hj, hj2, List.map_append, List.map_append]
      rfl
    rintro H2 ⟨s2, h2⟩
    rw [k1.len, List.take_length] at h2
    refine ⟨D, _, rfl, SqL.of h2, ?_⟩
    rw [sum_cnts]
    have s12 := s1.trans s2
    clear h1 k1 h2 hD s2 s1
    have hw2 := s12 _ _ hw
    -- now["many"]
    have gM : ∀ {H' : Hp} {k : Nat}, H' nw = some (.dK (mnL k)) → DGet H' nw (.str "many") (some (.int k)) := fun h => DGet.k (k := kMany) h
    refine ⟨_, rfl, nw, _, rfl, gM hw2, _, _, rfl, rfl, _, rfl, _, _, rfl, rfl, _, rfl, nw, _, rfl, DPut.k (k := kMany) hw2 (big (by show 1 ≤ 1000; decide)), ?_⟩
    have e1 : (m : Int) + 1 + (cnts (termsP p) : Int) = ((m + ownW p : Nat) : Int) := by
      unfold ownW
      omega
    rw [show putK (mnL m) kMany (.int ((m : Int) + 1 + (cnts (termsP p) : Int))) = mnL (m + ownW p) from by rw [e1]; rfl]
    have b3 : But1 nw H (upd H2 nw (.dK (mnL (m + ownW p)))) := but_put s12
    have w3 : upd H2 nw (.dK (mnL (m + ownW p))) nw = some (.dK (mnL (m + ownW p))) := upd_same
    generalize upd H2 nw (.dK (mnL (m + ownW p))) = H3 at b3 w3
    clear hw2 s12 e1
    have tk3 := But1.tkD hw b3
    have hA3 := hA.tk tk3
    have hH3 := hH.but hw b3
    refine ⟨_, rfl, nw, _, rfl, gM w3, _, _, rfl, rfl, _, rfl, ?_⟩
    refine ite2 (fun c => ?_) (fun c => ?_)
    · have c' : ((m + ownW p : Nat) : Int) > 200 := of_decide_eq_true c
      exact ⟨_, rfl, q H3 a p (m + ownW p) b3 w3 (by omega) (fun z => by omega) (by have := htP_le p; omega) hA3⟩
    clear c
    obtain ⟨r0, hd3⟩ := hA3.head
    have own : m + ownW p = m + ownW p := rfl
    refine ⟨_, rfl, a, _, _, _, rfl, rfl, SqT.of hd3, at0, rfl, _, rfl, ?_⟩
    cases p with
    | post j x U p2 => cases hpp
    | iff t p1 p2 =>
      obtain ⟨b, c, d, h1, h2, h3, h4⟩ := hA3
      have hpc : pcnt (Pt.iff t p1 p2) = 1 + pcnt p1 + pcnt p2 := rfl
      have hp1 := pc_pos p1
      have hp2 := pc_pos p2
      refine itT rfl ⟨_, rfl, _, rfl, a, _, _, _, rfl, rfl, SqT.of h1, at2, _, rfl, nw, c, hl, p1, hn, xs, _, rfl, h3, hsc.2.1, hH3, hS, by omega, by omega, w3, fun H4 r1 q1 m1 b4 w4 hm1 hg1 ht1 hr1 => ?_⟩
      have tk4 := But1.tkD w3 b4
      refine ⟨_, rfl, _, rfl, ?_⟩
      dsimp only [tNoPart]
      refine slA_of (K := K) (lo := none) (hi := some 2) (tk4 _ _ h1) fun t1 H5 s5 h5 => ?_
      refine ⟨_, rfl, _, rfl, _, rfl, a, _, _, _, rfl, rfl, SqT.of (s5 _ _ (tk4 _ _ h1)), at3, _, rfl, nw, d, hl, p2, hn, xs, m1, rfl, (h4.tk tk4).tk (tk_same s5), hsc.2.2, ((hH3.but w3 b4).but w4 (but_same s5)), hS, by omega, by omega, s5 _ _ w4, fun H6 r2 q2 m2 b6 w6 hm2 hg2 ht2' hr2 => ?_⟩
      have tk6 := But1.tkD (s5 _ _ w4) b6
      refine ⟨sz (by show 2 ≤ 100000; decide), fun t2 ht2 => ?_⟩
      have s7 := same_new ht2 (.tup [.ref r1, .ref r2])
      refine catA_of (s7 _ _ (tk6 _ _ h5)) upd_same (by show 2 + 2 ≤ 100000; decide) fun r H8 s8 h8 => ?_
      have s78 := s7.trans s8
      have tk8 := tk6.trans (tk_same s78)
      have h8' : H8 r = some (.tup [.str "if", .ref b, .ref r1, .ref r2]) := h8
      refine q H8 r (.iff t q1 q2) m2 (b3.trans (b4.trans ((but_same s5).trans (b6.trans (but_same s78))))) (s78 _ _ w6) (by omega) (fun hz => ?_) (by show 1 + max (htP q1) (htP q2) ≤ _; omega) ⟨b, r1, r2, h8', h2.tk (tk4.trans ((tk_same s5).trans tk8)), hr1.tk ((tk_same s5).trans tk8), hr2.tk (tk_same s78)⟩
      obtain ⟨g1, g2⟩ := hg1 (by omega)
      obtain ⟨g3, g4⟩ := hg2 hz
      refine ⟨⟨hsc.1, g1, g3⟩, ?_⟩
      show 1 + cnts [t] + wtP q1 + wtP q2 + m = m2
      have : ownW (Pt.iff t p1 p2) = 1 + cnts [t] := rfl
      omega
    | tell x t p1 =>
      obtain ⟨b, c, h1, h2, h3⟩ := hA3
      have hpc : pcnt (Pt.tell x t p1) = 1 + pcnt p1 := rfl
      refine itF rfl ⟨_, rfl, a, _, _, _, rfl, rfl, SqT.of h1, at0, rfl, _, rfl, itT rfl ⟨_, rfl, _, rfl, ?_⟩⟩
      dsimp only [tNoPart]
      refine slA_of (K := K) (lo := none) (hi := some 3) h1 fun t1 H5 s5 h5 => ?_
      refine ⟨_, rfl, _, rfl, a, _, _, _, rfl, rfl, SqT.of (s5 _ _ h1), at3, _, rfl, nw, c, hl, p1, hn, xs ++ [x], _, rfl, h3.tk (tk_same s5), hsc.2, hH3.but w3 (but_same s5), hS.mono (fun _ z => List.mem_append_left _ z), by omega, by omega, s5 _ _ w3, fun H6 r1 q1 m1 b6 w6 hm1 hg1 ht1 hr1 => ?_⟩
      have tk6 := But1.tkD (s5 _ _ w3) b6
      refine ⟨sz (by show 1 ≤ 100000; decide), fun t2 ht2 => ?_⟩
      have s7 := same_new ht2 (.tup [.ref r1])
      refine catA_of (s7 _ _ (tk6 _ _ h5)) upd_same (by show 3 + 1 ≤ 100000; decide) fun r H8 s8 h8 => ?_
      have s78 := s7.trans s8
      have h8' : H8 r = some (.tup [.str "tell", .str x, .ref b, .ref r1]) := h8
      refine q H8 r (.tell x t q1) m1 (b3.trans ((but_same s5).trans (b6.trans (but_same s78)))) (s78 _ _ w6) (by omega) (fun hz => ?_) (by show 1 + htP q1 ≤ _; omega) ⟨b, r1, h8', h2.tk ((tk_same s5).trans (tk6.trans (tk_same s78))), hr1.tk (tk_same s78)⟩
      obtain ⟨g1, g2⟩ := hg1 hz
      refine ⟨⟨hsc.1, g1⟩, ?_⟩
      show 1 + cnts [t] + wtP q1 + m = m1
      have : ownW (Pt.tell x t p1) = 1 + cnts [t] := rfl
      omega
    | lett x t p1 =>
      obtain ⟨b, c, h1, h2, h3⟩ := hA3
      have hpc : pcnt (Pt.lett x t p1) = 1 + pcnt p1 := rfl
      refine itF rfl ⟨_, rfl, a, _, _, _, rfl, rfl, SqT.of h1, at0, rfl, _, rfl, itF rfl ⟨_, rfl, a, _, _, _, rfl, rfl, SqT.of h1, at0, rfl, _, rfl, itT rfl ⟨_, rfl, _, rfl, ?_⟩⟩⟩
      dsimp only [tNoPart]
      refine slA_of (K := K) (lo := none) (hi := some 3) h1 fun t1 H5 s5 h5 => ?_
      refine ⟨_, rfl, _, rfl, a, _, _, _, rfl, rfl, SqT.of (s5 _ _ h1), at3, _, rfl, nw, c, hl, p1, hn, xs ++ [x], _, rfl, h3.tk (tk_same s5), hsc.2, hH3.but w3 (but_same s5), hS.mono (fun _ z => List.mem_append_left _ z), by omega, by omega, s5 _ _ w3, fun H6 r1 q1 m1 b6 w6 hm1 hg1 ht1 hr1 => ?_⟩
      have tk6 := But1.tkD (s5 _ _ w3) b6
      refine ⟨sz (by show 1 ≤ 100000; decide), fun t2 ht2 => ?_⟩
      have s7 := same_new ht2 (.tup [.ref r1])
      refine catA_of (s7 _ _ (tk6 _ _ h5)) upd_same (by show 3 + 1 ≤ 100000; decide) fun r H8 s8 h8 => ?_
      have s78 := s7.trans s8
      have h8' : H8 r = some (.tup [.str "let", .str x, .ref b, .ref r1]) := h8
      refine q H8 r (.lett x t q1) m1 (b3.trans ((but_same s5).trans (b6.trans (but_same s78)))) (s78 _ _ w6) (by omega) (fun hz => ?_) (by show 1 + htP q1 ≤ _; omega) ⟨b, r1, h8', h2.tk ((tk_same s5).trans (tk6.trans (tk_same s78))), hr1.tk (tk_same s78)⟩
      obtain ⟨g1, g2⟩ := hg1 hz
      refine ⟨⟨hsc.1, g1⟩, ?_⟩
      show 1 + cnts [t] + wtP q1 + m = m1
      have : ownW (Pt.lett x t p1) = 1 + cnts [t] := rfl
      omega
    | give j t =>
      obtain ⟨b, h1, h2⟩ := hA3
      obtain ⟨o, ho⟩ := look_dom hsc.1
      obtain ⟨kvs, v, g1, g2, g3, g4⟩ := hH3.get ho
      have hge : DGet H3 hl (.str j) (some v) := by
        have := DGet.k (k := Sum.inr j) g1
        rw [g2] at this
        exact this
      refine itF rfl ⟨_, rfl, a, _, _, _, rfl, rfl, SqT.of h1, at0, rfl, _, rfl, itF rfl ⟨_, rfl, a, _, _, _, rfl, rfl, SqT.of h1, at0, rfl, _, rfl, itF rfl ?_⟩⟩
      refine ⟨_, rfl, a, _, _, _, rfl, rfl, SqT.of h1, at0, rfl, .inr ⟨_, rfl, _, _, rfl, rfl, .inl (by decide), _, _, rfl, rfl, ?_⟩⟩
      refine ⟨_, rfl, _, rfl, _, rfl, a, _, _, _, rfl, rfl, SqT.of h1, at1, hl, v, rfl, hge, ?_⟩
      cases o with
      | none =>
        cases g3 rfl
        refine ⟨_, rfl, rfl, _, rfl, itT rfl ⟨_, rfl, ?_⟩⟩
        dsimp only [tNoPart]
        refine ⟨_, rfl, _, rfl, slA_of (K := K) (lo := none) (hi := some 1) h1 fun t1 H4 s4 h4 => ?_⟩
        have h4' : H4 t1 = some (.tup [.str "give"]) := h4
        refine ⟨sz (by show 1 ≤ 100000; decide), fun t2 ht2 => ?_⟩
        have s5 := same_new ht2 (.tup [.str "home"])
        refine catA_of (s5 _ _ h4') upd_same (by show 1 + 1 ≤ 100000; decide) fun t3 H6 s6 h6 => ?_
        have s46 := s4.trans (s5.trans s6)
        have h6' : H6 t3 = some (.tup [.str "give", .str "home"]) := h6
        refine ⟨_, rfl, _, rfl, _, _, rfl, rfl, _, rfl, ?_⟩
        dsimp only [tNoPart]
        refine slA_of (K := K) (lo := some 2) (hi := none) (s46 _ _ h1) fun t4 H7 s7 h7 => ?_
        have h7' : H7 t4 = some (.tup [.ref b]) := h7
        refine catA_of (s7 _ _ h6') h7' (by show 2 + 1 ≤ 100000; decide) fun r H8 s8 h8 => ?_
        have sA := s46.trans (s7.trans s8)
        have h8' : H8 r = some (.tup [.str "give", .str "home", .ref b]) := h8
        exact q H8 r (.give "home" t) _ (b3.trans (but_same sA)) (sA _ _ w3) (by omega) (fun _ => ⟨⟨List.mem_singleton.mpr rfl, hsc.2⟩, by show 1 + cnts [t] + m = m + (1 + cnts [t]); omega⟩) (by show 1 ≤ 2 * (1 + Hm hn); omega) ⟨b, h8', h2.mono sA⟩
      | some o =>
        obtain ⟨x, U, r⟩ := o
        obtain ⟨q1, bu, d, rfl, k1, k2, k3⟩ := g4 x U r rfl
        obtain ⟨e1, e2, e3⟩ := hS.look ho
        have hpc : pcnt (Pt.give j t) = 1 := rfl
        refine ⟨_, rfl, rfl, _, rfl, itF rfl ⟨_, rfl, q1, _, rfl, SqT.of k1, rfl, _, _, rfl, _, _, rfl, _, _, rfl, rfl, ?_⟩⟩
        refine ⟨_, rfl, a, _, _, _, rfl, rfl, SqT.of h1, at0, rfl, _, rfl, itT rfl ⟨_, rfl, _, rfl, a, _, _, _, rfl, rfl, SqT.of h1, at2, _, rfl, _, rfl, _, rfl, ?_⟩⟩
        refine ⟨nw, bu, d, U, r, xs ++ [x], _, rfl, k2, e1, k3, e2.mono (fun _ z => List.mem_append_left _ z), by omega, by omega, w3, fun H4 r1 p' m' b4 w4 hm4 hg4 ht4 hr4 => ?_⟩
        have tk4 := But1.tkD w3 b4
        refine ⟨sz (by show 4 ≤ 100000; decide), fun t1 ht1 => ?_⟩
        have s5 := same_new ht1 (.tup [.str "let", .str x, .ref b, .ref r1])
        refine q _ t1 (.lett x t p') m' (b3.trans (b4.trans (but_same s5))) (s5 _ _ w4) (by omega) (fun hz => ?_) (by show 1 + htP p' ≤ _; omega) ⟨b, r1, upd_same, (h2.tk tk4).mono s5, hr4.tk (tk_same s5)⟩
        obtain ⟨a1, a2⟩ := hg4 hz
        refine ⟨⟨hsc.2, a1⟩, ?_⟩
        show 1 + cnts [t] + wtP p' + m = m'
        have : ownW (Pt.give j t) = 1 + cnts [t] := rfl
        omega
    | ask g ts j =>
      obtain ⟨b, vs, h1, h2, h3⟩ := hA3
      obtain ⟨o, ho⟩ := look_dom hsc.1
      obtain ⟨kvs, v, g1, g2, g3, g4⟩ := hH3.get ho
      have hge : DGet H3 hl (.str j) (some v) := by
        have := DGet.k (k := Sum.inr j) g1
        rw [g2] at this
        exact this
      refine itF rfl ⟨_, rfl, a, _, _, _, rfl, rfl, SqT.of h1, at0, rfl, _, rfl, itF rfl ⟨_, rfl, a, _, _, _, rfl, rfl, SqT.of h1, at0, rfl, _, rfl, itF rfl ?_⟩⟩
      refine ⟨_, rfl, a, _, _, _, rfl, rfl, SqT.of h1, at0, rfl, .inr ⟨_, rfl, _, _, rfl, rfl, .inl (by decide), _, _, rfl, rfl, ?_⟩⟩
      refine ⟨_, rfl, _, rfl, _, rfl, a, _, _, _, rfl, rfl, SqT.of h1, at3, hl, v, rfl, hge, ?_⟩
      cases o with
      | none =>
        cases g3 rfl
        refine ⟨_, rfl, rfl, _, rfl, itT rfl ⟨_, rfl, ?_⟩⟩
        dsimp only [tNoPart]
        refine ⟨_, rfl, _, rfl, slA_of (K := K) (lo := none) (hi := some 3) h1 fun t1 H4 s4 h4 => ?_⟩
        have h4' : H4 t1 = some (.tup [.str "ask", .str g, .ref b]) := h4
        refine ⟨sz (by show 1 ≤ 100000; decide), fun t2 ht2 => ?_⟩
        have s5 := same_new ht2 (.tup [.str "home"])
        refine catA_of (s5 _ _ h4') upd_same (by show 3 + 1 ≤ 100000; decide) fun t3 H6 s6 h6 => ?_
        have s46 := s4.trans (s5.trans s6)
        have h6' : H6 t3 = some (.tup [.str "ask", .str g, .ref b, .str "home"]) := h6
        refine ⟨_, rfl, _, rfl, _, _, rfl, rfl, _, rfl, ?_⟩
        dsimp only [tNoPart]
        refine slA_of (K := K) (lo := some 4) (hi := none) (s46 _ _ h1) fun t4 H7 s7 h7 => ?_
        have h7' : H7 t4 = some (.tup []) := h7
        refine catA_of (s7 _ _ h6') h7' (by show 4 + 0 ≤ 100000; decide) fun r H8 s8 h8 => ?_
        have sA := s46.trans (s7.trans s8)
        have h8' : H8 r = some (.tup [.str "ask", .str g, .ref b, .str "home"]) := h8
        exact q H8 r (.ask g ts "home") _ (b3.trans (but_same sA)) (sA _ _ w3) (by omega) (fun _ => ⟨⟨List.mem_singleton.mpr rfl, hsc.2.1, hsc.2.2.1, hsc.2.2.2⟩, by show 1 + cnts ts + m = m + (1 + cnts ts); omega⟩) (by show 1 ≤ 2 * (1 + Hm hn); omega) ⟨b, vs, h8', sA _ _ h2, h3.imp fun _ _ z => RefV.tk (tk_same sA) z⟩
      | some o =>
        obtain ⟨x, U, r⟩ := o
        obtain ⟨q1, bu, d, rfl, k1, k2, k3⟩ := g4 x U r rfl
        obtain ⟨e1, e2, e3⟩ := hS.look ho
        have hpc : pcnt (Pt.ask g ts j) = 1 := rfl
        refine ⟨_, rfl, rfl, _, rfl, itF rfl ⟨_, rfl, q1, _, rfl, SqT.of k1, rfl, _, _, rfl, _, _, rfl, _, _, rfl, rfl, ?_⟩⟩
        refine ⟨_, rfl, a, _, _, _, rfl, rfl, SqT.of h1, at0, rfl, _, rfl, itF rfl ?_⟩
        refine ⟨_, rfl, nw, _, rfl, gM w3, _, _, rfl, rfl, _, rfl, nw, _, rfl, DPut.k (k := kMany) w3 (big (by show 1 ≤ 1000; decide)), ?_⟩
        generalize hm1 : m + ownW (Pt.ask g ts j) = m1 at w3 ⊢
        rw [show putK (mnL m1) kMany (.int ((m1 : Int) + 1)) = mnL (m1 + 1) from rfl]
        have b4 : But1 nw H3 (upd H3 nw (.dK (mnL (m1 + 1)))) := but_put (Same.refl H3)
        have w4 : upd H3 nw (.dK (mnL (m1 + 1))) nw = some (.dK (mnL (m1 + 1))) := upd_same
        generalize upd H3 nw (.dK (mnL (m1 + 1))) = H4 at b4 w4
        have tk4 := But1.tkD w3 b4
        refine ⟨_, rfl, _, rfl, _, rfl, nw, bu, d, U, r, xs ++ [x], m1 + 1, rfl, k2.tk tk4, e1, k3.but w3 b4, e2.mono (fun _ z => List.mem_append_left _ z), by omega, by omega, w4, fun H5 r1 p' m' b5 w5 hm5 hg5 ht5 hr5 => ?_⟩
        have tk5 := tk4.trans (But1.tkD w4 b5)
        refine ⟨_, rfl, _, rfl, _, rfl, _, rfl, ?_⟩
        dsimp only [tNoPart]
        refine slA_of (K := K) (lo := none) (hi := some 3) (tk5 _ _ h1) fun t1 H6 s6 h6 => ?_
        have h6' : H6 t1 = some (.tup [.str "ask", .str g, .ref b]) := h6
        refine ⟨sz (by show 1 ≤ 100000; decide), fun t2 ht2 => ?_⟩
        have s7 := same_new ht2 (.tup [.str "j"])
        refine catA_of (s7 _ _ h6') upd_same (by show 3 + 1 ≤ 100000; decide) fun t3 H8 s8 h8 => ?_
        have s68 := s6.trans (s7.trans s8)
        have h8' : H8 t3 = some (.tup [.str "ask", .str g, .ref b, .str "j"]) := h8
        refine ⟨sz (by show 5 ≤ 100000; decide), fun t4 ht4 => ?_⟩
        have s9 := same_new ht4 (.tup [.str "post", .str "j", .str x, .ref r1, .ref t3])
        have s69 := s68.trans s9
        refine q _ t4 (.post "j" x p' (.ask g ts "j")) m' (b3.trans (b4.trans (b5.trans (but_same s69)))) (s69 _ _ w5) (by omega) (fun hz => ?_) (by have := pc_pos U; show 1 + max (htP p') 1 ≤ _; omega) ⟨r1, t3, upd_same, hr5.tk (tk_same s69), b, vs, s9 _ _ h8', s69 _ _ (tk5 _ _ h2), h3.imp fun _ _ z => RefV.tk (tk5.trans (tk_same s69)) z⟩
        obtain ⟨a1, a2⟩ := hg5 hz
        refine ⟨⟨a1, List.mem_append_right _ (List.mem_singleton.mpr rfl), hsc.2.1, hsc.2.2.1, hsc.2.2.2⟩, ?_⟩
        show 1 + wtP p' + (1 + cnts ts) + m = m'
        have : ownW (Pt.ask g ts j) = 1 + cnts ts := rfl
        omega
theorem no_lay {f : Addr} {fd : FuncData} : FnOk P w K mg base CX0 4 f fd ["now", "part", "hands"] (spLay 0) := by
  have no : ∀ vs H Q E, ¬ spLay 0 vs H Q E := fun vs H Q E h => by
    obtain ⟨nw, a, hl, p, hn, xs, m, _, _, _, _, _, h0, _⟩ := h
    have := pc_pos p
    omega
  exact ⟨fun vs H Q E h => absurd h (no vs H Q E), fun A outer s H args us vs Q E _ _ _ _ h => absurd h (no vs H Q E)⟩
theorem all_lay (T : Txt K mg) (msum : mg "sum" = none) {f f1 f2 : Addr} {fd d1 d2 : FuncData} (F : Fun K "_law_lay" "_law_lay" s_law_lay f fd) (R_law_lay : Ref K mg "_law_lay" f fd ["now", "part", "hands"])
    (G_law_terms : FnOk P w K mg base CX0 1 f1 d1 ["part"] spTerms) (R_law_terms : Ref K mg "_law_terms" f1 d1 ["part"]) (G_law_size : FnOk P w K mg base CX0 2 f2 d2 ["term"] (spSize 2)) (R_law_size : Ref K mg "_law_size" f2 d2 ["term"]) : ∀ n : Nat, FnOk P w K mg base CX0 (n + 4) f fd ["now", "part", "hands"] (spLay n)
  | 0 => no_lay
  | n + 1 => ok_lay T msum F (all_lay T msum F R_law_lay G_law_terms R_law_terms G_law_size R_law_size n) R_law_lay G_law_terms R_law_terms G_law_size R_law_size
end
end KB

namespace KB
open PySem L2 HT

/-! ### laid: as the law looks -/
def endsH : Pt → Bool
  | .give j _ => decide (j = "home")
  | .ask _ _ j => decide (j = "home")
  | .post _ _ p _ => endsH p
  | .tell _ _ p => endsH p
  | .lett _ _ p => endsH p
  | .iff _ p q => endsH p && endsH q
def askTo (j : Str) : Pt → Bool
  | .ask _ _ i => decide (i = j)
  | _ => false
def postOk : Pt → Bool
  | .post j _ _ q => askTo j q
  | _ => true
def allOk (p : Pt) : Bool := (allP p).all fun e => postOk e.2
theorem all_map' {α β : Type} (f : α → β) (g : β → Bool) (l : List α) : (l.map f).all g = l.all fun a => g (f a) := List.all_map
theorem allOk_kids (p : Pt) : allOk p = (postOk p && (lkids p).all fun k => allOk k.2) := by
  unfold allOk
  rw [allP_mk]
  show (postOk p && (allK (lkids p)).all fun e => postOk e.2) = _
  congr 1
  unfold allK
  rw [List.all_flatten, List.all_map]
  congr 1
  funext k
  show (((allP k.2).map fun e => (k.1 :: e.1, e.2)).all fun e => postOk e.2) = _
  rw [List.all_map]
  rfl
theorem laid_same : ∀ p : Pt, laidP "home" p = (allOk p && endsH p)
  | .give j t => by rw [allOk_kids]; rfl
  | .ask f ts j => by rw [allOk_kids]; rfl
  | .tell x t p => by
    rw [allOk_kids]
    show laidP "home" p = ((true && (allOk p && true)) && endsH p)
    rw [laid_same p, Bool.and_true, Bool.true_and]
  | .lett x t p => by
    rw [allOk_kids]
    show laidP "home" p = ((true && (allOk p && true)) && endsH p)
    rw [laid_same p, Bool.and_true, Bool.true_and]
  | .iff t p q => by
    rw [allOk_kids]
    show (laidP "home" p && laidP "home" q) = ((true && (allOk p && (allOk q && true))) && (endsH p && endsH q))
    rw [laid_same p, laid_same q]
    cases allOk p <;> cases allOk q <;> cases endsH p <;> cases endsH q <;> rfl
  | .post j x p q => by
    rw [allOk_kids]
    show (isAskP q && (laidP "home" p && laidP j q)) = ((askTo j q && (allOk p && (allOk q && true))) && endsH p)
    rw [laid_same p]
    cases q with
    | ask f ts i =>
      have e : allOk (.ask f ts i) = true := by rw [allOk_kids]; rfl
      rw [e]
      show (true && ((allOk p && endsH p) && decide (i = j))) = ((decide (i = j) && (allOk p && (true && true))) && endsH p)
      cases decide (i = j) <;> cases allOk p <;> cases endsH p <;> rfl
    | _ => rfl
theorem kidsH {p : Pt} (h1 : isPostP p = false) (h2 : isGiveP p = false) (h3 : isAskP p = false) : endsH p = (lkids p).all fun k => endsH k.2 := by
  cases p with
  | post j x p q => cases h1
  | give j t => cases h2
  | ask f ts j => cases h3
  | tell x t p => exact (Bool.and_true _).symm
  | lett x t p => exact (Bool.and_true _).symm
  | iff t p q => show (endsH p && endsH q) = (endsH p && (endsH q && true)); rw [Bool.and_true]
theorem books_same (es : List TEr) : (es.all fun e => laidP "home" e.2.2) = (((allOf es).all fun x => postOk x.2.2) && es.all fun e => endsH e.2.2) := by
  induction es with
  | nil => rfl
  | cons e r ih =>
    have h3 : allOf (e :: r) = (allP e.2.2).map (fun x => (e.1, x)) ++ allOf r := rfl
    rw [h3, List.all_append, List.all_map, List.all_cons, List.all_cons, ih, laid_same]
    show (((allOk e.2.2) && endsH e.2.2) && _) = ((allOk e.2.2 && _) && (endsH e.2.2 && _))
    generalize ((allOf r).all fun x => postOk x.2.2) = b1
    generalize (r.all fun e => endsH e.2.2) = b2
    cases allOk e.2.2 <;> cases endsH e.2.2 <;> cases b1 <;> cases b2 <;> rfl
theorem hsP_give_is (p : Pt) : decide (V.str (hsP p) = V.str "give") = isGiveP p := by cases p <;> rfl
section
variable {P : Program} {w : World} {K : PySem.W.Frag} {mg : Str → Option Value} {base : Heap}
/-! ### _law_ends_home -/
def spEndsH (n : Nat) : Sp := fun vs H Q _ => ∃ (a : Addr) (p : Pt), vs = [.ref a] ∧ PAt H p a ∧ pcnt p ≤ n ∧ ∀ H', Same H H' → Q (.bl (endsH p)) H'
abbrev s_law_ends_home : Stmt := top 33
theorem scLends_home : FnScope ["part", "number", "one"] ["part"] (defScope s_law_ends_home) := ⟨rfl, rfl, rfl, by decide +kernel, rfl, by decide +kernel, by decide +kernel⟩
theorem ok_endsH (T : Txt K mg) (n : Nat) {f f1 : Addr} {fd d1 : FuncData} (F : Fun K "_law_ends_home" "_law_ends_home" s_law_ends_home f fd) (G_law_ends_home : FnOk P w K mg base CX0 (n + 1) f fd ["part"] (spEndsH n)) (R_law_ends_home : Ref K mg "_law_ends_home" f fd ["part"])
    (G_law_kids : FnOk P w K mg base CX0 1 f1 d1 ["part"] spLKids) (R_law_kids : Ref K mg "_law_kids" f1 d1 ["part"]) : FnOk P w K mg base CX0 (n + 2) f fd ["part"] (spEndsH (n + 1)) := by
  refine F.ok scLends_home (fun vs H Q E h => ?_) (fun cdv A outer s H vs Q E hr h => ?_)
  · obtain ⟨a, p, rfl, _⟩ := h
    rfl
  obtain ⟨a, p, rfl, hA, hc, q⟩ := h
  refine ⟨_, (pss_cons (ps_if (pt_cmpR op_eq (pe_ix ix_tup (pv 0) pe_int (fun _ _ => rfl)) pe_str (nomark _)) (pss_one (ps_ret (pe_cmpR op_eq (pe_ix ix_tup (pv 0) pe_int (fun _ _ => rfl)) pe_str (nomark _)))) pss_nil)
    (pss_cons (ps_if (pt_cmpR op_eq (pe_ix ix_tup (pv 0) pe_int (fun _ _ => rfl)) pe_str (nomark _)) (pss_one (ps_ret (pe_cmpR op_eq (pe_ix ix_tup (pv 0) pe_int (fun _ _ => rfl)) pe_str (nomark _)))) pss_nil)
    (pss_cons (ps_if (pt_cmpR op_eq (pe_ix ix_tup (pv 0) pe_int (fun _ _ => rfl)) pe_str (nomark _)) (pss_one (ps_ret (pe_call G_law_ends_home hr rfl R_law_ends_home.m R_law_ends_home.k R_law_ends_home.b .nil pass0 (pa_cons (pe_ix ix_tup (pv 0) pe_int (fun _ _ => rfl)) pa_nil)))) pss_nil)
    (pss_one (ps_ret (pe_callB (cr_all rfl) (by rfl) T.m_all (by decide +kernel) (pa_cons (pe_lc (own := [("number", 1), ("one", 2)]) (g := gTup K 2 (gCons (gName 1) (gCons (gName 2) gNil))) (by rfl) scLends_home.nd (pi_list (pe_call G_law_kids (hr.mono (by omega)) rfl R_law_kids.m R_law_kids.k R_law_kids.b .nil pass0 (pa_cons (pv 0) pa_nil))) (blkOk_by (own := [("number", 1), ("one", 2)]) (N := ["part", "number", "one"]) (sc := defScope s_law_ends_home) (by decide +kernel)) (fun _ _ _ _ _ => (pg_tup rfl (pgs_cons (pg_name (i := 1) scLends_home.nd rfl (Or.inl rfl)) (pgs_cons (pg_name (i := 2) scLends_home.nd rfl (Or.inl rfl)) pgs_nil)))) (fun _ _ _ _ _ => pts_nil) (fun _ _ _ _ _ => (pe_call G_law_ends_home hr rfl R_law_ends_home.m R_law_ends_home.k R_law_ends_home.b .nil pass0 (pa_cons (pv 2) pa_nil)))) pa_nil))))))), ?_⟩
  obtain ⟨r0, hd⟩ := hA.head
  refine ⟨_, rfl, a, _, _, _, rfl, rfl, SqT.of hd, at0, rfl, _, rfl, ?_⟩
  show if decide (V.str (hsP p) = V.str "give") = true then _ else _
  rw [hsP_give_is]
  cases hg : isGiveP p with
  | true =>
    obtain ⟨j, t, rfl⟩ : ∃ j t, p = .give j t := by
      cases p with
      | give j t => exact ⟨j, t, rfl⟩
      | _ => cases hg
    obtain ⟨b, h1, h2⟩ := hA
    refine itT rfl ⟨_, rfl, a, _, _, _, rfl, rfl, SqT.of h1, at1, rfl, ?_⟩
    rw [eq_str]
    exact q H (Same.refl H)
  | false =>
    refine itF rfl ⟨_, rfl, a, _, _, _, rfl, rfl, SqT.of hd, at0, rfl, _, rfl, ?_⟩
    show if decide (V.str (hsP p) = V.str "ask") = true then _ else _
    rw [hsP_ask_is]
    cases ha : isAskP p with
    | true =>
      obtain ⟨g, ts, j, rfl⟩ : ∃ g ts j, p = .ask g ts j := by
        cases p with
        | ask g ts j => exact ⟨g, ts, j, rfl⟩
        | _ => cases ha
      obtain ⟨b, vs, h1, h2, h3⟩ := hA
      refine itT rfl ⟨_, rfl, a, _, _, _, rfl, rfl, SqT.of h1, at3, rfl, ?_⟩
      rw [eq_str]
      exact q H (Same.refl H)
    | false =>
      refine itF rfl ⟨_, rfl, a, _, _, _, rfl, rfl, SqT.of hd, at0, rfl, _, rfl, ?_⟩
      show if decide (V.str (hsP p) = V.str "post") = true then _ else _
      rw [hsP_post_is]
      cases hp : isPostP p with
      | true =>
        obtain ⟨j, x, p1, p2, rfl⟩ : ∃ j x p1 p2, p = .post j x p1 p2 := by
          cases p with
          | post j x p1 p2 => exact ⟨j, x, p1, p2, rfl⟩
          | _ => cases hp
        obtain ⟨ca, da, h1, h2, h3⟩ := hA
        have hpc : pcnt (Pt.post j x p1 p2) = 1 + pcnt p1 + pcnt p2 := rfl
        exact itT rfl ⟨_, rfl, a, _, _, _, rfl, rfl, SqT.of h1, at3, ca, p1, rfl, h2, by omega, q⟩
      | false =>
        refine itF rfl ⟨_, rfl, a, p, rfl, hA, fun kl H1 us hkl s1 h1 k1 => ?_⟩
        refine ⟨kl, rfl, ⟨_, SqL.of h1⟩, fun D hD => lc_list (K := K) (a := kl) (xs := us) (fun i H' => Same H1 H' ∧ H' D = some (.lst ((((lkids p).take i).map fun k => endsH k.2).map V.bl))) ⟨same_new hD _, upd_same⟩ ?_ ?_ ?_⟩
        · rintro i H' _ ⟨s2, _⟩
          exact SqL.of (s2 _ _ h1)
        · rintro i x H2 hx ⟨s2, h2⟩
          obtain ⟨k, hk, qe, b, rfl, g1, g2⟩ := k1.get hx
          obtain ⟨hj, hj2⟩ := List.getElem?_eq_some_iff.mp hk
          have hlt := lk_cnt (mem_of_get hk)
          have hl2 := lk_len p
          refine ⟨qe, _, rfl, SqT.of (s2 _ _ g1), rfl, _, _, rfl, _, _, rfl, rfl, rfl, ?_⟩
          dsimp only [tYes]
          refine iteT ⟨_, rfl, b, k.2, rfl, g2.tk (tk_same s2), by omega, fun H3 s3 => ?_⟩
          refine ⟨_, s3 _ _ h2, Nat.lt_of_le_of_lt (m := 100) (by rw [List.length_map, List.length_map, List.length_take]; omega) (by decide), same_mut (s2.trans s3) hD, ?_⟩
          rw [upd_same, List.take_succ_eq_append_getElem hj, hj2, List.map_append, List.map_append]
          rfl
        · rintro H2 ⟨s2, h2⟩
          rw [k1.len, List.take_length] at h2
          refine ⟨D, _, rfl, SqL.of h2, ?_⟩
          have := q H2 (s1.trans s2)
          rw [kidsH hp hg ha] at this
          rw [List.all_map]
          exact this
theorem no_endsH {f : Addr} {fd : FuncData} : FnOk P w K mg base CX0 1 f fd ["part"] (spEndsH 0) := by
  have no : ∀ vs H Q E, ¬ spEndsH 0 vs H Q E := fun vs H Q E h => by
    obtain ⟨a, p, _, _, h0, _⟩ := h
    have := pc_pos p
    omega
  exact ⟨fun vs H Q E h => absurd h (no vs H Q E), fun A outer s H args us vs Q E _ _ _ _ h => absurd h (no vs H Q E)⟩
theorem all_endsH (T : Txt K mg) {f f1 : Addr} {fd d1 : FuncData} (F : Fun K "_law_ends_home" "_law_ends_home" s_law_ends_home f fd) (R_law_ends_home : Ref K mg "_law_ends_home" f fd ["part"])
    (G_law_kids : FnOk P w K mg base CX0 1 f1 d1 ["part"] spLKids) (R_law_kids : Ref K mg "_law_kids" f1 d1 ["part"]) : ∀ n : Nat, FnOk P w K mg base CX0 (n + 1) f fd ["part"] (spEndsH n)
  | 0 => no_endsH
  | n + 1 => ok_endsH T n F (all_endsH T F R_law_ends_home G_law_kids R_law_kids n) R_law_ends_home G_law_kids R_law_kids
/-! ### _law_is_laid -/
def spLIsLaid : Sp := fun vs H Q _ => ∃ (p : Addr) (es : List TEr) (us : List V), vs = [.ref p] ∧ TBkAt H es us p ∧ es.length ≤ 6 ∧ (∀ e ∈ es, pcnt e.2.2 ≤ 220) ∧ ∀ H', Same H H' → Q (.bl (((allOf es).all fun x => postOk x.2.2) && es.all fun e => endsH e.2.2)) H'
abbrev s_law_is_laid : Stmt := top 32
theorem scLis_laid : FnScope ["turned", "place", "part", "name", "names", "body"] ["turned"] (defScope s_law_is_laid) := ⟨rfl, rfl, rfl, by decide +kernel, rfl, by decide +kernel, by decide +kernel⟩
theorem all_false {α : Type} {l : List α} {g : α → Bool} {a : α} (h : a ∈ l) (e : g a = false) : l.all g = false := by
  rw [List.all_eq_false]
  exact ⟨a, h, by rw [e]; exact Bool.false_ne_true⟩
theorem ok_lisl {f f1 f2 : Addr} {fd d1 d2 : FuncData} (F : Fun K "_law_is_laid" "_law_is_laid" s_law_is_laid f fd) (G_law_all_of : FnOk P w K mg base CX0 222 f1 d1 ["turned"] spLAllOf) (R_law_all_of : Ref K mg "_law_all_of" f1 d1 ["turned"])
    (G_law_ends_home : FnOk P w K mg base CX0 221 f2 d2 ["part"] (spEndsH 220)) (R_law_ends_home : Ref K mg "_law_ends_home" f2 d2 ["part"]) : FnOk P w K mg base CX0 223 f fd ["turned"] spLIsLaid := by
  refine F.ok scLis_laid (fun vs H Q E h => ?_) (fun cdv A outer s H vs Q E hr h => ?_)
  · obtain ⟨p, es, us, rfl, _⟩ := h
    rfl
  obtain ⟨p, es, us, rfl, hB, hl6, hc, q⟩ := h
  refine ⟨_, (pss_cons (ps_for PassesOwn.never rfl (pi_list (pe_call G_law_all_of hr rfl R_law_all_of.m R_law_all_of.k R_law_all_of.b .nil pass0 (pa_cons (pv 0) pa_nil))) (pg_tup rfl (pgs_cons (pg_name (i := 1) scLis_laid.nd rfl (Or.inl rfl)) (pgs_cons (pg_name (i := 2) scLis_laid.nd rfl (Or.inl rfl)) pgs_nil))) (pss_one (ps_if (PW.pt (pw_and (pt_cmpR op_eq (pe_ix ix_tup (pv 2) pe_int (fun _ _ => rfl)) pe_str (nomark _)) (pw_and1 (PW.pt (pw_or (pt_cmpR op_ne (pe_ix ix_tup (pe_ix ix_tup (pv 2) pe_int (fun _ _ => rfl)) pe_int (fun _ _ => rfl)) pe_str (nomark _)) (pw_or1 (pt_cmpR op_ne (pe_ix ix_tup (pe_ix ix_tup (pv 2) pe_int (fun _ _ => rfl)) pe_int (fun _ _ => rfl)) (pe_ix ix_tup (pv 2) pe_int (fun _ _ => rfl)) (nomark _)))))))) (pss_one (ps_ret pe_bl)) pss_nil)))
    (pss_cons (ps_for PassesOwn.never rfl (pi_tup (pv 0)) (pg_tup rfl (pgs_cons (pg_name (i := 3) scLis_laid.nd rfl (Or.inl rfl)) (pgs_cons (pg_name (i := 4) scLis_laid.nd rfl (Or.inl rfl)) (pgs_cons (pg_name (i := 5) scLis_laid.nd rfl (Or.inl rfl)) pgs_nil)))) (pss_one (ps_if (pt_not (pt_val (pe_call G_law_ends_home (hr.mono (by omega)) rfl R_law_ends_home.m R_law_ends_home.k R_law_ends_home.b .nil pass0 (pa_cons (pv 5) pa_nil)))) (pss_one (ps_ret pe_bl)) pss_nil)))
    (pss_one (ps_ret pe_bl)))), ?_⟩
  refine ⟨_, rfl, p, es, us, rfl, hB, hl6, hc, fun al H1 its hal s1 h1 k1 => ?_⟩
  refine ⟨al, rfl, ⟨_, SqL.of h1⟩, for_list (K := K) (a := al) (xs := its) (fun i σ H' => ∃ o1 o2, σ = [some (.ref p), o1, o2, none, none, none] ∧ Same H1 H' ∧ ((allOf es).take i).all (fun x => postOk x.2.2) = true) ⟨_, _, rfl, Same.refl _, rfl⟩ ?_ ?_ ?_⟩
  · rintro i σ H' _ ⟨o1, o2, rfl, s2, _⟩
    exact SqL.of (s2 _ _ h1)
  · rintro i x σ H2 hx ⟨o1, o2, rfl, s2, ha⟩
    obtain ⟨y, hy, qe, r, b, rfl, g1, g2, g3⟩ := k1.get hx
    obtain ⟨hj, hj2⟩ := List.getElem?_eq_some_iff.mp hy
    have bad : postOk y.2.2 = false → Q (.bl false) H2 := fun e => by
      have := q H2 (s1.trans s2)
      rw [all_false (g := fun x : Str × List Int × Pt => postOk x.2.2) (mem_of_get hy) e, Bool.false_and] at this
      exact this
    have good : postOk y.2.2 = true → ((allOf es).take (i + 1)).all (fun x => postOk x.2.2) = true := fun e => by
      rw [List.take_succ_eq_append_getElem hj, hj2, List.all_append, ha, List.all_cons, e]
      rfl
    have g3' := g3.tk (tk_same s2)
    refine ⟨qe, _, rfl, SqT.of (s2 _ _ g1), rfl, _, _, rfl, _, _, rfl, rfl, ?_⟩
    obtain ⟨r0, hd⟩ := g3'.head
    refine ⟨_, rfl, b, _, _, _, rfl, rfl, SqT.of hd, at0, rfl, _, rfl, ?_⟩
    show if decide (V.str (hsP y.2.2) = V.str "post") = true then _ else _
    rw [hsP_post_is]
    generalize y.2.2 = py at bad good g3' hd
    cases hp : isPostP py with
    | false => exact itF rfl ⟨_, _, rfl, s2, good (by cases py with | post j x p1 p2 => cases hp | _ => rfl)⟩
    | true =>
      obtain ⟨j, x, p1, p2, rfl⟩ : ∃ j x p1 p2, py = .post j x p1 p2 := by
        cases py with
        | post j x p1 p2 => exact ⟨j, x, p1, p2, rfl⟩
        | _ => cases hp
      obtain ⟨ca, da, h3, h4, h5⟩ := g3'
      obtain ⟨r1, hd2⟩ := h5.head
      refine itT rfl ⟨_, rfl, b, _, _, _, rfl, rfl, SqT.of h3, at4, da, _, _, _, rfl, rfl, SqT.of hd2, at0, rfl, _, rfl, ?_⟩
      show if (!decide (V.str (hsP p2) = V.str "ask")) = true then _ else _
      rw [hsP_ask_is]
      cases ha2 : isAskP p2 with
      | false => exact itT rfl (bad (by show askTo j p2 = false; cases p2 with | ask f ts i => cases ha2 | _ => rfl))
      | true =>
        obtain ⟨g, ts, i2, rfl⟩ : ∃ g ts i2, p2 = .ask g ts i2 := by
          cases p2 with
          | ask g ts i2 => exact ⟨g, ts, i2, rfl⟩
          | _ => cases ha2
        obtain ⟨bq, vs, k3, k4, k5⟩ := h5
        refine itF rfl ⟨_, rfl, b, _, _, _, rfl, rfl, SqT.of h3, at4, da, _, _, _, rfl, rfl, SqT.of k3, at3, _, rfl, b, _, _, _, rfl, rfl, SqT.of h3, at1, rfl, _, rfl, ?_⟩
        rw [eq_str]
        cases hd3 : decide (i2 = j) with
        | true => exact itF rfl ⟨_, _, rfl, s2, good hd3⟩
        | false => exact itT rfl (bad hd3)
  rintro σ H2 ⟨o1, o2, rfl, s2, ha⟩
  rw [k1.len, List.take_length] at ha
  have s12 := s1.trans s2
  refine ⟨_, rfl, p, rfl, ⟨_, SqT.of (s12 _ _ hB.1)⟩, for_tup (xs := us) (fun i σ H' => ∃ o3 o4 o5, σ = [some (.ref p), o1, o2, o3, o4, o5] ∧ Same H H' ∧ (es.take i).all (fun e => endsH e.2.2) = true) ⟨_, _, _, rfl, s12, rfl⟩ ?_ ?_ ?_⟩
  · rintro i σ H' _ ⟨o3, o4, o5, rfl, s3, _⟩
    exact SqT.of (s3 _ _ hB.1)
  · rintro i x σ H3 hx ⟨o3, o4, o5, rfl, s3, hb⟩
    obtain ⟨e, he, qa, r, b, rfl, g1, g2, g3⟩ := hB.2.get hx
    obtain ⟨hj, hj2⟩ := List.getElem?_eq_some_iff.mp he
    refine ⟨qa, _, rfl, SqT.of (s3 _ _ g1), rfl, _, _, rfl, _, _, rfl, _, _, rfl, rfl, ?_⟩
    refine ⟨_, rfl, b, e.2.2, rfl, g3.tk (tk_same s3), hc e (mem_of_get he), fun H4 s4 => ⟨_, rfl, ?_⟩⟩
    cases hh : endsH e.2.2 with
    | true =>
      refine itF rfl ⟨_, _, _, rfl, s3.trans s4, ?_⟩
      rw [List.take_succ_eq_append_getElem hj, hj2, List.all_append, hb, List.all_cons, hh]
      rfl
    | false =>
      refine itT rfl ?_
      have := q H4 (s3.trans s4)
      rw [all_false (g := fun e : TEr => endsH e.2.2) (mem_of_get he) hh, Bool.and_false] at this
      exact this
  · rintro σ H3 ⟨o3, o4, o5, rfl, s3, hb⟩
    rw [hB.2.len, List.take_length] at hb
    have := q H3 s3
    rw [ha, hb] at this
    exact this
end
end KB

namespace KB
open PySem L2 HT

structure LdE (e : TEr) : Prop where
  w : isW e.1 = true
  n4 : e.2.1.length ≤ 4
  sc : scP e.2.2 e.2.1 ["home"]
  wt : wtP e.2.2 ≤ 200
  ht : htP e.2.2 ≤ 26
section
variable {P : Program} {w : World} {K : PySem.W.Frag} {mg : Str → Option Value} {base : Heap}
/-! ### _law_laid -/
def spLaid : Sp := fun vs H Q _ => ∃ (p : Addr) (es : List TEr) (us : List V), vs = [.ref p] ∧ TBkAt H es us p ∧ GdTB es ∧ (∀ z H', Same H H' → Q (.str z) H') ∧
  ∀ H' p' es' us', Same H H' → TBkAt H' es' us' p' → es'.length = es.length → (∀ e ∈ es', LdE e) → Q (.ref p') H'
abbrev s_law_laid : Stmt := top 31
theorem scLlaid : FnScope ["turned", "found", "name", "names", "body", "now", "part"] ["turned"] (defScope s_law_laid) := ⟨rfl, rfl, rfl, by decide +kernel, rfl, by decide +kernel, by decide +kernel⟩
theorem ok_laid (T : Txt K mg) {f f1 : Addr} {fd d1 : FuncData} (F : Fun K "_law_laid" "_law_laid" s_law_laid f fd) (G_law_lay : FnOk P w K mg base CX0 17 f1 d1 ["now", "part", "hands"] (spLay 13)) (R_law_lay : Ref K mg "_law_lay" f1 d1 ["now", "part", "hands"]) : FnOk P w K mg base CX0 18 f fd ["turned"] spLaid := by
  refine F.ok scLlaid (fun vs H Q E h => ?_) (fun cdv A outer s H vs Q E hr h => ?_)
  · obtain ⟨p, es, us, rfl, _⟩ := h
    rfl
  obtain ⟨p, es, us, rfl, hB, hG, qn, q⟩ := h
  obtain ⟨hF, hGe, _⟩ := hG.er
  refine ⟨_, (pss_cons (ps_set (i := 1) scLlaid.nd rfl (Or.inl rfl) (pe_lst pa_nil))
    (pss_cons (ps_for PassesOwn.never rfl (pi_tup (pv 0)) (pg_tup rfl (pgs_cons (pg_name (i := 2) scLlaid.nd rfl (Or.inl rfl)) (pgs_cons (pg_name (i := 3) scLlaid.nd rfl (Or.inl rfl)) (pgs_cons (pg_name (i := 4) scLlaid.nd rfl (Or.inl rfl)) pgs_nil)))) (pss_cons (ps_set (i := 5) scLlaid.nd rfl (Or.inl rfl) (pe_disp (pps_cons pe_str pe_int pps_nil) (by rfl) (by rfl) (fun z => by cases z) (by decide)))
    (pss_cons (ps_set (i := 6) scLlaid.nd rfl (Or.inl rfl) (pe_call G_law_lay hr rfl R_law_lay.m R_law_lay.k R_law_lay.b .nil pass0 (pa_cons (pv 5) (pa_cons (pv 4) (pa_cons (pe_disp (pps_cons pe_str pe_non pps_nil) (by rfl) (by rfl) (fun z => by cases z) (by decide)) pa_nil)))))
    (pss_cons (ps_if (pt_cmpR op_gt (pe_dget (hu_of hr) (pv 5) pe_str (fun _ _ => rfl)) pe_int (nomark _)) (pss_one (ps_ret (pv 2))) pss_nil)
    (pss_one (ps_expr (pe_bm PySem.F.plainAttrs_list PySem.F.slot_list_append PySem.F.type_list_append mt_append (pv 1) (pa_cons (pe_tup (pa_cons (pv 2) (pa_cons (pv 3) (pa_cons (pv 6) pa_nil)))) pa_nil))))))))
    (pss_one (ps_ret (pe_callTy call_tuple_of (by rfl) T.m_tuple (by decide +kernel) (pa_cons (pv 1) pa_nil)))))), ?_⟩
  refine ⟨sz (by show 0 ≤ 100000; decide), fun fl hfl => ?_⟩
  have s0 := same_new hfl (.lst [])
  refine ⟨_, rfl, p, rfl, ⟨_, SqT.of (s0 _ _ hB.1)⟩, for_tup (xs := us) (fun i σ H' => ∃ o2 o3 o4 o5 o6 acc es', σ = [some (.ref p), some (.ref fl), o2, o3, o4, o5, o6] ∧ Same H H' ∧ H' fl = some (.lst acc) ∧ All2 (TErV H') es' acc ∧ es'.length = (es.take i).length ∧ ∀ e ∈ es', LdE e) ?_ ?_ ?_ ?_⟩
  · refine ⟨_, _, _, _, _, [], [], rfl, s0, upd_same, trivial, ?_, fun e he => by cases he⟩
    rw [List.take_zero]
  · rintro i σ H' _ ⟨o2, o3, o4, o5, o6, acc, es', rfl, s1, _⟩
    exact SqT.of (s1 _ _ hB.1)
  · rintro i x σ H1 hx ⟨o2, o3, o4, o5, o6, acc, es', rfl, s1, h1, k1, hl, hok⟩
    obtain ⟨e, he, qa, r, b, rfl, g1, g2, g3⟩ := hB.2.get hx
    have gd := hGe e (mem_of_get he)
    obtain ⟨hj, hj2⟩ := List.getElem?_eq_some_iff.mp he
    refine ⟨qa, _, rfl, SqT.of (s1 _ _ g1), rfl, _, _, rfl, _, _, rfl, _, _, rfl, rfl, ?_⟩
    intro nw hnw
    have sN := same_new hnw (.dK [])
    refine ⟨upd_same, mnL 0, rfl, by show 1 ≤ 15; decide, ?_⟩
    rw [show mergeK [] (mnL 0) = mnL 0 from rfl]
    have s2 : Same H1 (upd (upd H1 nw (.dK [])) nw (.dK (mnL 0))) := same_mut sN hnw
    have w2 : upd (upd H1 nw (.dK [])) nw (.dK (mnL 0)) nw = some (.dK (mnL 0)) := upd_same
    clear sN
    generalize upd (upd H1 nw (.dK [])) nw (.dK (mnL 0)) = H2 at s2 w2
    refine ⟨_, rfl, _, rfl, ?_⟩
    intro hd hhd
    have sN := same_new hhd (.dK [])
    refine ⟨upd_same, [(Sum.inr "home", .non)], rfl, by show 1 ≤ 15; decide, ?_⟩
    rw [show mergeK [] [((Sum.inr "home" : Key), V.non)] = [((Sum.inr "home" : Key), V.non)] from rfl]
    have s3 : Same H2 (upd (upd H2 hd (.dK [])) hd (.dK [((Sum.inr "home" : Key), V.non)])) := same_mut sN hhd
    have w3 : upd (upd H2 hd (.dK [])) hd (.dK [((Sum.inr "home" : Key), V.non)]) hd = some (.dK [((Sum.inr "home" : Key), V.non)]) := upd_same
    clear sN
    generalize upd (upd H2 hd (.dK [])) hd (.dK [((Sum.inr "home" : Key), V.non)]) = H3 at s3 w3
    have s13 := s2.trans s3
    have hH : HnAt H3 .home hd := ⟨_, w3, Nat.le_refl 1, fun y => by
      by_cases c : y = "home"
      · rw [if_pos c]
        exact valV_pos (congrArg Sum.inr c.symm)
      · rw [if_neg c]
        exact valV_neg (r := []) (fun z => c (Sum.inr.inj z).symm)⟩
    have hcn := gd.cn
    refine ⟨nw, b, hd, e.2.2, .home, e.2.1, 0, rfl, g3.tk (tk_same (s1.trans s13)), okP_scP gd.ok, hH, trivial, by show pcnt e.2.2 + 0 ≤ 13; omega, by show pcnt e.2.2 + 0 ≤ 100; omega, s3 _ _ w2, fun H4 r4 p' m' b4 w4 hm4 hg4 ht4 hp4 => ?_⟩
    have s14 : Same H1 H4 := fun x o h => b4 x o (ne_of_none h hnw) (s13 x o h)
    have gM : DGet H4 nw (.str "many") (some (.int m')) := DGet.k (k := kMany) w4
    refine ⟨_, rfl, nw, _, rfl, gM, _, _, rfl, rfl, _, rfl, ?_⟩
    refine ite2 (fun c => ⟨_, rfl, qn _ _ (s1.trans s14)⟩) (fun c => ?_)
    have hm2 : m' ≤ 200 := by
      have : ¬ ((m' : Int) > 200) := fun z => c (decide_eq_true z)
      omega
    obtain ⟨a1, a2⟩ := hg4 hm2
    refine ⟨_, rfl, .inl ⟨rfl, _, SqL.of (s14 _ _ h1)⟩, _, rfl, _, rfl, _, rfl, sz (by show 3 ≤ 100000; decide), fun t1 ht1 => ?_⟩
    have s5 := same_new ht1 (.tup [.str e.1, .ref r, .ref r4])
    have s15 := s14.trans s5
    have lacc := k1.len
    have les := hG.len.2
    rw [List.length_take] at hl
    refine ⟨fl, _, _, rfl, rfl, s15 _ _ h1, Nat.lt_of_le_of_lt (m := 100) (by omega) (by decide), ?_⟩
    have tk := tk_put (o := .lst (acc ++ [.ref t1])) (s15 _ _ h1)
    refine ⟨_, _, _, _, _, acc ++ [.ref t1], es' ++ [(e.1, e.2.1, p')], rfl, same_mut (s1.trans s15) hfl, upd_same, (k1.imp fun _ _ z => TErV.tk ((tk_same s15).trans tk) z).app ⟨⟨t1, r, r4, rfl, tk _ _ upd_same, tk _ _ ((s1.trans s15) _ _ g2), (hp4.tk (tk_same s5)).tk tk⟩, trivial⟩, ?_, ?_⟩
    · rw [List.length_append, List.length_singleton, List.length_take]
      omega
    · intro e' he'
      rcases List.mem_append.mp he' with z | z
      · exact hok e' z
      · rw [List.mem_singleton.mp z]
        exact ⟨gd.w, gd.n4, a1, by show wtP p' ≤ 200; omega, by have e0 : Hm .home = 0 := rfl; show htP p' ≤ 26; omega⟩
  · rintro σ H1 ⟨o2, o3, o4, o5, o6, acc, es', rfl, s1, h1, k1, hl, hok⟩
    rw [hB.2.len, List.take_length] at hl
    refine ⟨_, rfl, fl, _, rfl, .inl ⟨SqL.of h1, fun p' hp' => ?_⟩⟩
    have s2 := same_new hp' (.tup acc)
    exact q _ p' es' acc (s1.trans s2) ⟨upd_same, k1.imp fun _ _ z => TErV.tk (tk_same s2) z⟩ hl hok
/-! ### _law_count -/
def kT (p : Pt) : Prop := ∀ e ∈ allP p, (∀ t ∈ termsP e.2, STm t) ∧ (termsP e.2).length ≤ 4
theorem kT_of {p : Pt} (h : (∀ t ∈ termsP p, STm t) ∧ (termsP p).length ≤ 4) (hk : ∀ k ∈ lkids p, kT k.2) : kT p := by
  intro e he
  rw [allP_mk] at he
  rcases List.mem_cons.mp he with z | z
  · rw [z]; exact h
  · obtain ⟨l, hl, hm⟩ := List.mem_flatten.mp z
    obtain ⟨k, hk2, rfl⟩ := List.mem_map.mp hl
    obtain ⟨x, hx, rfl⟩ := List.mem_map.mp hm
    exact hk k hk2 x hx
theorem sc_kT : ∀ {p : Pt} {xs js : List Str}, scP p xs js → kT p
  | .give j t, _, _, h => kT_of ⟨fun u hu => ((sc_terms h).1 u hu).s, (sc_terms h).2⟩ (fun k hk => by cases hk)
  | .ask f ts j, _, _, h => kT_of ⟨fun u hu => ((sc_terms h).1 u hu).s, (sc_terms h).2⟩ (fun k hk => by cases hk)
  | .tell x t p, _, _, h => kT_of ⟨fun u hu => ((sc_terms h).1 u hu).s, (sc_terms h).2⟩ (fun k hk => by rw [List.mem_singleton.mp hk]; exact sc_kT h.2)
  | .lett x t p, _, _, h => kT_of ⟨fun u hu => ((sc_terms h).1 u hu).s, (sc_terms h).2⟩ (fun k hk => by rw [List.mem_singleton.mp hk]; exact sc_kT h.2)
  | .iff t p q, _, _, h => kT_of ⟨fun u hu => ((sc_terms h).1 u hu).s, (sc_terms h).2⟩ (fun k hk => by
      rcases List.mem_cons.mp hk with z | z
      · rw [z]; exact sc_kT h.2.1
      · rw [List.mem_singleton.mp z]; exact sc_kT h.2.2)
  | .post j x p q, _, _, h => kT_of ⟨fun u hu => ((sc_terms h).1 u hu).s, (sc_terms h).2⟩ (fun k hk => by
      rcases List.mem_cons.mp hk with z | z
      · rw [z]; exact sc_kT h.1
      · rw [List.mem_singleton.mp z]; exact sc_kT h.2)
def own2 (e : List Int × Pt) : Nat := ownW e.2
theorem wt_sum (p : Pt) : ((allP p).map own2).sum = wtP p := by
  have mp : ∀ (g : List Int → List Int) (l : List (List Int × Pt)), ((l.map fun e => (g e.1, e.2)).map own2).sum = (l.map own2).sum := fun g l => by
    rw [List.map_map]
    rfl
  induction p with
  | give j t => show ownW (.give j t) + 0 = 1 + cnts [t]; exact Nat.add_zero _
  | ask f ts j => show ownW (.ask f ts j) + 0 = 1 + cnts ts; exact Nat.add_zero _
  | tell x t p ih =>
    show ownW (.tell x t p) + (((allP p).map (fun (e : List Int × Pt) => ((1 : Int) :: e.1, e.2)) ++ []).map own2).sum = 1 + cnts [t] + wtP p
    rw [List.append_nil, mp, ih]
    rfl
  | lett x t p ih =>
    show ownW (.lett x t p) + (((allP p).map (fun (e : List Int × Pt) => ((1 : Int) :: e.1, e.2)) ++ []).map own2).sum = 1 + cnts [t] + wtP p
    rw [List.append_nil, mp, ih]
    rfl
  | iff t p q ihp ihq =>
    show ownW (.iff t p q) + (((allP p).map (fun (e : List Int × Pt) => ((1 : Int) :: e.1, e.2)) ++ ((allP q).map (fun (e : List Int × Pt) => ((2 : Int) :: e.1, e.2)) ++ [])).map own2).sum = 1 + cnts [t] + wtP p + wtP q
    rw [List.append_nil, List.map_append, List.sum_append, mp, mp, ihp, ihq]
    show (1 + cnts [t]) + _ = _
    omega
  | post j x p q ihp ihq =>
    show ownW (.post j x p q) + (((allP p).map (fun (e : List Int × Pt) => ((0 : Int) :: e.1, e.2)) ++ ((allP q).map (fun (e : List Int × Pt) => ((1 : Int) :: e.1, e.2)) ++ [])).map own2).sum = 1 + wtP p + wtP q
    rw [List.append_nil, List.map_append, List.sum_append, mp, mp, ihp, ihq]
    show (1 + 0) + _ = _
    omega
def spCount : Sp := fun vs H Q _ => ∃ (a : Addr) (p : Pt), vs = [.ref a] ∧ PAt H p a ∧ kT p ∧ pcnt p ≤ 220 ∧ ∀ H', Same H H' → Q (.int (wtP p)) H'
abbrev s_law_count : Stmt := top 36
theorem scLcount : FnScope ["body", "found", "place", "part", "one"] ["body"] (defScope s_law_count) := ⟨rfl, rfl, rfl, by decide +kernel, rfl, by decide +kernel, by decide +kernel⟩
theorem ok_count (msum : mg "sum" = none) {f f1 f2 f3 : Addr} {fd d1 d2 d3 : FuncData} (F : Fun K "_law_count" "_law_count" s_law_count f fd) (G_law_all : FnOk P w K mg base CX0 221 f1 d1 ["part", "place"] (spLAll 220)) (R_law_all : Ref K mg "_law_all" f1 d1 ["part", "place"])
    (G_law_terms : FnOk P w K mg base CX0 1 f2 d2 ["part"] spTerms) (R_law_terms : Ref K mg "_law_terms" f2 d2 ["part"]) (G_law_size : FnOk P w K mg base CX0 2 f3 d3 ["term"] (spSize 2)) (R_law_size : Ref K mg "_law_size" f3 d3 ["term"]) : FnOk P w K mg base CX0 222 f fd ["body"] spCount := by
  refine F.ok scLcount (fun vs H Q E h => ?_) (fun cdv A outer s H vs Q E hr h => ?_)
  · obtain ⟨a, p, rfl, _⟩ := h
    rfl
  obtain ⟨a, p, rfl, hA, hk, hc, q⟩ := h
  refine ⟨_, (pss_cons (ps_set (i := 1) scLcount.nd rfl (Or.inl rfl) pe_int)
    (pss_cons (ps_for PassesOwn.never rfl (pi_list (pe_call G_law_all hr rfl R_law_all.m R_law_all.k R_law_all.b .nil pass0 (pa_cons (pv 0) (pa_cons (pe_tup pa_nil) pa_nil)))) (pg_tup rfl (pgs_cons (pg_name (i := 2) scLcount.nd rfl (Or.inl rfl)) (pgs_cons (pg_name (i := 3) scLcount.nd rfl (Or.inl rfl)) pgs_nil))) (pss_one (ps_set (i := 1) scLcount.nd rfl (Or.inl rfl) (pe_op op_add (pe_op op_add (pv 1) pe_int) (pe_callB (cr_sum rfl) (by rfl) msum (by decide +kernel) (pa_cons (pe_lc (own := [("one", 4)]) (g := gName 4) (by rfl) scLcount.nd (pi_tup (pe_call G_law_terms (hr.mono (by omega)) rfl R_law_terms.m R_law_terms.k R_law_terms.b .nil pass0 (pa_cons (pv 3) pa_nil))) (blkOk_by (own := [("one", 4)]) (N := ["body", "found", "place", "part", "one"]) (sc := defScope s_law_count) (by decide +kernel)) (fun _ _ _ _ _ => (pg_name (i := 4) scLcount.nd rfl (Or.inl rfl))) (fun _ _ _ _ _ => pts_nil) (fun _ _ _ _ _ => (pe_call G_law_size (hr.mono (by omega)) rfl R_law_size.m R_law_size.k R_law_size.b .nil pass0 (pa_cons (pv 4) pa_nil)))) pa_nil))))))
    (pss_one (ps_ret (pv 1))))), ?_⟩
  refine ⟨_, rfl, sz (by show 0 ≤ 100000; decide), fun pt hpt => ?_⟩
  have s0 := same_new hpt (.tup [])
  refine ⟨a, pt, p, [], rfl, hA.tk (tk_same s0), hc, by omega, upd_same, by show 0 + 219 ≤ 2000; omega, fun al H1 its hal s1 h1 k1 => ?_⟩
  have s01 := s0.trans s1
  refine ⟨al, rfl, ⟨_, SqL.of h1⟩, for_list (K := K) (a := al) (xs := its) (fun i σ H' => ∃ o2 o3, σ = [some (.ref a), some (.int (((((allP p).take i).map own2).sum : Nat) : Int)), o2, o3, none] ∧ Same H1 H') ⟨_, _, rfl, Same.refl _⟩ ?_ ?_ ?_⟩
  · rintro i σ H' _ ⟨o2, o3, rfl, s2⟩
    exact SqL.of (s2 _ _ h1)
  · rintro i x σ H2 hx ⟨o2, o3, rfl, s2⟩
    obtain ⟨y, hy, qe, r, b, rfl, g1, g2, g3⟩ := k1.get hx
    obtain ⟨hj, hj2⟩ := List.getElem?_eq_some_iff.mp hy
    obtain ⟨gts, gl⟩ := hk y (mem_of_get hy)
    refine ⟨qe, _, rfl, SqT.of (s2 _ _ g1), rfl, _, _, rfl, _, _, rfl, rfl, ?_⟩
    refine ⟨_, rfl, _, _, rfl, rfl, _, rfl, b, y.2, rfl, g3.tk (tk_same s2), fun H3 tq us s3 h3 k3 => ?_⟩
    refine ⟨tq, rfl, ⟨_, SqT.of h3⟩, fun D hD => lc_tup (K := K) (a := tq) (xs := us) (fun i H' => Same H3 H' ∧ H' D = some (.lst ((((termsP y.2).take i).map fun t => (cnt t : Int)).map V.int))) ⟨same_new hD _, upd_same⟩ ?_ ?_ ?_⟩
    · rintro i H' _ ⟨s4, _⟩
      exact SqT.of (s4 _ _ h3)
    · rintro i z H4 hz ⟨s4, h4⟩
      obtain ⟨u, hu, bu, rfl, hb⟩ := k3.get hz
      obtain ⟨hj', hj2'⟩ := List.getElem?_eq_some_iff.mp hu
      have gu := gts u (mem_of_get hu)
      refine ⟨rfl, ?_⟩
      dsimp only [tYes]
      refine iteT ⟨_, rfl, bu, u, rfl, hb.mono s4, gu.si, gu.ht, Nat.le_trans gu.cn (by decide), fun H5 s5 => ?_⟩
      refine ⟨_, s5 _ _ h4, Nat.lt_of_le_of_lt (m := 100) (by rw [List.length_map, List.length_map, List.length_take]; omega) (by decide), same_mut (s4.trans s5) hD, ?_⟩
      rw [upd_same, List.take_succ_eq_append_getElem hj', hj2', List.map_append, List.map_append]
      rfl
    · rintro H4 ⟨s4, h4⟩
      rw [k3.len, List.take_length] at h4
      refine ⟨D, _, rfl, SqL.of h4, _, _, rfl, rfl, ?_⟩
      rw [sum_cnts]
      refine ⟨some (.ref r), some (.ref b), ?_, s2.trans (s3.trans s4)⟩
      rw [List.take_succ_eq_append_getElem hj, hj2, List.map_append, List.sum_append]
      show [some (V.ref a), some (V.int ((((((allP p).take i).map own2).sum : Nat) : Int) + 1 + (cnts (termsP y.2) : Int))), some (.ref r), some (.ref b), none] = _
      have e : (((((allP p).take i).map own2).sum : Nat) : Int) + 1 + (cnts (termsP y.2) : Int) = (((((allP p).take i).map own2).sum + [own2 y].sum : Nat) : Int) := by
        show _ = ((_ + (own2 y + 0) : Nat) : Int)
        have : own2 y = 1 + cnts (termsP y.2) := rfl
        omega
      rw [e]
      rfl
  · rintro σ H2 ⟨o2, o3, rfl, s2⟩
    rw [k1.len, List.take_length, wt_sum]
    exact ⟨_, rfl, q H2 (s01.trans s2)⟩
end
end KB

namespace KB
open PySem L2 HT

/-! ### terms whose names are numbers -/
inductive ST | num (z : Int) | nam (k : Nat) | bin (l : Bool) (a b : ST)
def binS (l : Bool) : Str := if l = true then "less" else "plus"
def STAt (H : Hp) : ST → Addr → Prop
  | .num z, a => H a = some (.tup [.str "number", .int z])
  | .nam k, a => H a = some (.tup [.str "name", .int (k : Int)])
  | .bin l s t, a => ∃ b c, H a = some (.tup [.str (binS l), .ref b, .ref c]) ∧ STAt H s b ∧ STAt H t c
def scnt : ST → Nat
  | .num _ => 1
  | .nam _ => 1
  | .bin _ a b => 1 + scnt a + scnt b
def sGd : Nat → ST → Prop
  | 0, _ => False
  | _ + 1, .num z => 0 ≤ z ∧ z < 1000
  | _ + 1, .nam k => k < 676
  | n + 1, .bin _ a b => sGd n a ∧ sGd n b
theorem STAt.tk {H H' : Hp} (k : TK H H') : ∀ {s : ST} {a : Addr}, STAt H s a → STAt H' s a
  | .num z, a, h => k _ _ h
  | .nam z, a, h => k _ _ h
  | .bin l s t, a, ⟨b, c, h1, h2, h3⟩ => ⟨b, c, k _ _ h1, STAt.tk k h2, STAt.tk k h3⟩
def STV (H : Hp) (s : ST) (v : V) : Prop := ∃ b, v = .ref b ∧ STAt H s b
theorem STV.tk {H H' : Hp} (k : TK H H') {s : ST} {v : V} (h : STV H s v) : STV H' s v := let ⟨b, e, g⟩ := h; ⟨b, e, g.tk k⟩
/-- the dict of words' numbers -/
def WdAt (H : Hp) (wd : Addr) (xs : List Str) (N : Nat) : Prop := ∃ kvs : List (Key × V), H wd = some (.dK kvs) ∧ kvs.length ≤ N ∧ ∀ x ∈ xs, ∃ k : Nat, valV kvs (Sum.inr x) = some (.int (k : Int)) ∧ k < 676
theorem WdAt.but {H H' : Hp} {wd nw : Addr} {xs : List Str} {N : Nat} {zs : List V} (hw : H nw = some (.lst zs)) (e : But1 nw H H') (h : WdAt H wd xs N) : WdAt H' wd xs N := by
  obtain ⟨kvs, h1, h2, h3⟩ := h
  exact ⟨kvs, e _ _ (fun z => by rw [z, hw] at h1; cases h1) h1, h2, h3⟩
theorem WdAt.same {H H' : Hp} {wd : Addr} {xs : List Str} {N : Nat} (e : Same H H') (h : WdAt H wd xs N) : WdAt H' wd xs N := by
  obtain ⟨kvs, h1, h2, h3⟩ := h
  exact ⟨kvs, e _ _ h1, h2, h3⟩
/-! ### terms whose names are said anew -/
def sgW (f : Str) (k : Nat) : Str := (f ++ (⟨#[97 + k / 26]⟩ : Str)) ++ (⟨#[97 + k % 26]⟩ : Str)
theorem sg_tab : ∀ k : _root_.Fin 676, isW (sgW "w" k.val) = true ∧ isW (sgW "p" k.val) = true := by decide +kernel
theorem sg_w {k : Nat} (h : k < 676) : isW (sgW "w" k) = true := (sg_tab ⟨k, h⟩).1
theorem sg_p {k : Nat} (h : k < 676) : isW (sgW "p" k) = true := (sg_tab ⟨k, h⟩).2
def tmS : ST → Tm
  | .num z => mkL (.num z) []
  | .nam k => mkL (.nam (sgW "w" k)) []
  | .bin l a b => mkL (if l = true then .less else .plus) [tmS a, tmS b]
theorem tmS_cnt : ∀ s : ST, cnt (tmS s) = scnt s
  | .num z => by show cnt (mkL _ []) = 1; rw [cnt_mkL]; rfl
  | .nam k => by show cnt (mkL _ []) = 1; rw [cnt_mkL]; rfl
  | .bin l a b => by
    show cnt (mkL _ [tmS a, tmS b]) = 1 + scnt a + scnt b
    rw [cnt_mkL]
    show 1 + (cnt (tmS a) + (cnt (tmS b) + 0)) = _
    rw [tmS_cnt a, tmS_cnt b]
    omega
theorem tmS_gd : ∀ {n : Nat} {s : ST}, sGd n s → okT (tmS s) ∧ simple (tmS s) = true ∧ HtLe n (tmS s)
  | 0, _, h => h.elim
  | n + 1, .num z, h => ⟨ok_mkL h (fun t ht => by cases ht), simple_mkL rfl (fun t ht => by cases ht), ht_mkL (fun t ht => by cases ht)⟩
  | n + 1, .nam k, h => ⟨ok_mkL (sg_w h) (fun t ht => by cases ht), simple_mkL rfl (fun t ht => by cases ht), ht_mkL (fun t ht => by cases ht)⟩
  | n + 1, .bin l a b, h => by
    obtain ⟨a1, a2, a3⟩ := tmS_gd h.1
    obtain ⟨b1, b2, b3⟩ := tmS_gd h.2
    have m : ∀ {P : Tm → Prop}, P (tmS a) → P (tmS b) → ∀ t ∈ [tmS a, tmS b], P t := fun p q t ht => by
      rcases List.mem_cons.mp ht with z | z
      · rw [z]; exact p
      · rw [List.mem_singleton.mp z]; exact q
    refine ⟨ok_mkL (by cases l <;> (unfold okH; trivial)) (m a1 b1), simple_mkL (by cases l <;> rfl) (m (P := fun t => simple t = true) a2 b2), ht_mkL (m a3 b3)⟩
theorem tmS_st {s : ST} (h : sGd 2 s) (hc : scnt s ≤ 3) : STm (tmS s) := by
  obtain ⟨a, b, c⟩ := tmS_gd h
  exact ⟨a, b, by rw [tmS_cnt]; exact hc, c⟩
section
variable {P : Program} {w : World} {K : PySem.W.Frag} {mg : Str → Option Value} {base : Heap}
/-! ### _law_shape_term -/
def spShT (n : Nat) : Sp := fun vs H Q _ => ∃ (a wd : Addr) (t : Tm) (xs : List Str) (N : Nat), vs = [.ref a, .ref wd] ∧ At H t a ∧ okT t ∧ simple t = true ∧ HtLe n t ∧ cnt t ≤ 100 ∧ inT xs t ∧ WdAt H wd xs N ∧ ∀ H' b s, Same H H' → STAt H' s b → scnt s = cnt t → sGd n s → Q (.ref b) H'
abbrev s_law_shape_term : Stmt := top 22
theorem scLshape_term : FnScope ["term", "words", "one"] ["term", "words"] (defScope s_law_shape_term) := ⟨rfl, rfl, rfl, by decide +kernel, rfl, by decide +kernel, by decide +kernel⟩
theorem ok_shT (T : Txt K mg) (n : Nat) {f : Addr} {fd : FuncData} (F : Fun K "_law_shape_term" "_law_shape_term" s_law_shape_term f fd) (G_law_shape_term : FnOk P w K mg base CX0 n f fd ["term", "words"] (spShT n)) (R_law_shape_term : Ref K mg "_law_shape_term" f fd ["term", "words"]) : FnOk P w K mg base CX0 (n + 1) f fd ["term", "words"] (spShT (n + 1)) := by
  refine F.ok scLshape_term (fun vs H Q E h => ?_) (fun cdv A outer s H vs Q E hr h => ?_)
  · obtain ⟨a, wd, t, xs, N, rfl, _⟩ := h
    rfl
  obtain ⟨a, wd, t, xs, N, rfl, hA, hok, hsm, hh, hc, hi, hW, q⟩ := h
  refine ⟨_, (pss_cons (ps_if (pt_cmpR op_eq (pe_ix ix_tup (pv 0) pe_int (fun _ _ => rfl)) pe_str (nomark _)) (pss_one (ps_ret (pv 0))) pss_nil)
    (pss_cons (ps_if (pt_cmpR op_eq (pe_ix ix_tup (pv 0) pe_int (fun _ _ => rfl)) pe_str (nomark _)) (pss_one (ps_ret (pe_tup (pa_cons pe_str (pa_cons (pe_dget (hu_of hr) (pv 1) (pe_ix ix_tup (pv 0) pe_int (fun _ _ => rfl)) (fun _ _ => rfl)) pa_nil))))) pss_nil)
    (pss_one (ps_ret (pe_op op_catA (pe_tup (pa_cons (pe_ix ix_tup (pv 0) pe_int (fun _ _ => rfl)) pa_nil)) (pe_callTy call_tuple_of (by rfl) T.m_tuple (by decide +kernel) (pa_cons (pe_lc (own := [("one", 2)]) (g := gName 2) (by rfl) scLshape_term.nd (pi_tup (pe_slice sl_tupA (pv 0) (po_some pe_int) po_none)) (blkOk_by (own := [("one", 2)]) (N := ["term", "words", "one"]) (sc := defScope s_law_shape_term) (by decide +kernel)) (fun _ _ _ _ _ => (pg_name (i := 2) scLshape_term.nd rfl (Or.inl rfl))) (fun _ _ _ _ _ => pts_nil) (fun _ _ _ _ _ => (pe_call G_law_shape_term (hr.mono (by omega)) rfl R_law_shape_term.m R_law_shape_term.k R_law_shape_term.b .nil pass0 (pa_cons (pv 2) (pa_cons (pv 1) pa_nil))))) pa_nil))))))), ?_⟩
  cases t with
  | mk h m k =>
    obtain ⟨ys, l, r⟩ := hA
    obtain ⟨r0, hhd⟩ := l.head
    obtain ⟨f1, f2⟩ := simple_mk' hsm
    have hcm := cnt_mk (h := h) (k := k)
    have e0 : (Rfs ys).length = m := by
      unfold Rfs
      rw [List.length_ofFn]
    refine ⟨_, rfl, a, _, _, _, rfl, rfl, SqT.of hhd, at0, rfl, _, rfl, ?_⟩
    cases h with
    | num z =>
      have hm : m = 0 := by rw [← e0, l.1]; rfl
      subst hm
      exact itT rfl ⟨_, rfl, q H a (.num z) (Same.refl H) l.2 rfl hok.1⟩
    | nam x =>
      have hm : m = 0 := by rw [← e0, l.1]; rfl
      subst hm
      obtain ⟨kvs, w1, w2, w3⟩ := hW
      obtain ⟨kk, k1, k2⟩ := w3 x hi.1
      refine itF rfl ⟨_, rfl, a, _, _, _, rfl, rfl, SqT.of hhd, at0, rfl, _, rfl, itT rfl ?_⟩
      refine ⟨_, rfl, _, rfl, a, _, _, _, rfl, rfl, SqT.of l.2, at1, wd, .int (kk : Int), rfl, get_of w1 k1, sz (by show 2 ≤ 100000; decide), fun p hp => ?_⟩
      exact q _ p (.nam kk) (same_new hp _) upd_same rfl k2
    | tell => exact absurd f1 (by decide)
    | lett x => exact absurd f1 Bool.false_ne_true
    | iff => exact absurd f1 (by decide)
    | ask g => exact absurd f1 Bool.false_ne_true
    | plus =>
      have hm : m = 2 := by rw [← e0]; exact l.1
      subst hm
      refine itF rfl ⟨_, rfl, a, _, _, _, rfl, rfl, SqT.of hhd, at0, rfl, _, rfl, itF rfl ?_⟩
      refine ⟨_, rfl, a, _, _, _, rfl, rfl, SqT.of hhd, at0, sz (by show 1 ≤ 100000; decide), fun t0 ht0 => ?_⟩
      have s0 := same_new ht0 (.tup [V.str "plus"])
      have g0 : upd H t0 (.tup [V.str "plus"]) t0 = some (.tup [V.str "plus"]) := upd_same
      refine ⟨_, rfl, _, rfl, ?_⟩
      dsimp only [tNoPart]
      refine slA_of (K := K) (lo := some 1) (hi := none) (s0 _ _ l.2) fun p1 H1 s1 h1 => ?_
      rw [show ∀ z : V, cutV (z :: Rfs ys) (some 1) none = Rfs ys from fun z => cut1] at h1
      have s01 := s0.trans s1
      refine ⟨p1, rfl, ⟨_, SqT.of h1⟩, fun D hD => lc_tup (K := K) (a := p1) (xs := Rfs ys) (fun i H' => Same H1 H' ∧ ∃ ss acc, H' D = some (.lst acc) ∧ All2 (STV H') ss acc ∧ ss.map scnt = ((List.ofFn k).take i).map cnt ∧ ∀ s ∈ ss, sGd n s) ⟨same_new hD _, [], [], upd_same, trivial, by rw [List.take_zero]; rfl, (fun s hs => by cases hs)⟩ ?_ ?_ ?_⟩
      · rintro i H' _ ⟨s2, _⟩
        exact SqT.of (s2 _ _ h1)
      · rintro i x H2 hx ⟨s2, ss, acc, h2, k2, e2, g2⟩
        obtain ⟨u, hu, b, rfl, hb⟩ := (all2_fn r).get hx
        obtain ⟨hj, hj2⟩ := List.getElem?_eq_some_iff.mp hu
        have hj3 : i < 2 := by simpa using hj
        obtain ⟨fi, rfl⟩ := List.mem_ofFn.mp (mem_of_get hu)
        have hcu := cnt_mem (mem_of_get hu)
        have s02 := s01.trans s2
        have hl := congrArg List.length e2
        rw [List.length_map, List.length_map, List.length_take] at hl
        have la := k2.len
        refine ⟨rfl, ?_⟩
        dsimp only [tYes]
        refine iteT ⟨_, rfl, _, rfl, b, wd, k fi, xs, N, rfl, hb.mono s02, hok.2 fi, f2 fi, hh fi, by omega, hi.2 fi, hW.same s02, fun H3 b3 s3 t3 hS e3 g3 => ?_⟩
        have tk := tk_put (o := .lst (acc ++ [.ref b3])) (t3 _ _ h2)
        refine ⟨acc, t3 _ _ h2, Nat.lt_of_le_of_lt (m := 100) (by omega) (by decide), same_mut (s2.trans t3) hD, ss ++ [s3], _, upd_same, ((k2.imp fun _ _ z => STV.tk (tk_same t3) z).imp fun _ _ z => z.tk tk).app ⟨⟨b3, rfl, hS.tk tk⟩, trivial⟩, ?_, ?_⟩
        · rw [List.map_append, e2, List.take_succ_eq_append_getElem hj, hj2, List.map_append]
          show _ ++ [scnt s3] = _
          rw [e3]
          rfl
        · intro s hs
          rcases List.mem_append.mp hs with z | z
          · exact g2 s z
          · rw [List.mem_singleton.mp z]
            exact g3
      · rintro H2 ⟨s2, ss, acc, h2, k2, e2, g2⟩
        rw [show (Rfs ys).length = (List.ofFn k).length from by rw [e0]; simp, List.take_length] at e2
        refine ⟨D, acc, rfl, .inl ⟨SqL.of h2, fun p3 hp3 => ?_⟩⟩
        have s3 := same_new hp3 (.tup acc)
        have s13 := s1.trans (s2.trans s3)
        have hl2 := congrArg List.length e2
        rw [List.length_map, List.length_map, List.length_ofFn] at hl2
        obtain ⟨sa, sb, rfl⟩ : ∃ sa sb, ss = [sa, sb] := by
          match ss, hl2 with
          | [sa, sb], _ => exact ⟨sa, sb, rfl⟩
        have la2 := k2.len
        obtain ⟨va, vb, rfl⟩ : ∃ va vb, acc = [va, vb] := by
          match acc, la2 with
          | [va, vb], _ => exact ⟨va, vb, rfl⟩
        · obtain ⟨⟨ba, rfl, hba⟩, ⟨bb, rfl, hbb⟩, _⟩ := k2
          refine catA_of (s13 _ _ g0) upd_same (by show 1 + 2 ≤ 100000; decide) fun p4 H4 s4 h4 => ?_
          have s34 := s3.trans s4
          refine q H4 p4 (.bin false sa sb) (s0.trans (s13.trans s4)) ⟨ba, bb, ?_, hba.tk (tk_same s34), hbb.tk (tk_same s34)⟩ ?_ ⟨g2 sa List.mem_cons_self, g2 sb (List.mem_cons_of_mem _ List.mem_cons_self)⟩
          rotate_left
          · rw [hcm]
            have e3 : [scnt sa, scnt sb] = (List.ofFn k).map cnt := e2
            show 1 + scnt sa + scnt sb = 1 + ((List.ofFn k).map cnt).sum
            rw [← e3]
            show _ = 1 + (scnt sa + (scnt sb + 0))
            omega
          · exact h4
    | less =>
      have hm : m = 2 := by rw [← e0]; exact l.1
      subst hm
      refine itF rfl ⟨_, rfl, a, _, _, _, rfl, rfl, SqT.of hhd, at0, rfl, _, rfl, itF rfl ?_⟩
      refine ⟨_, rfl, a, _, _, _, rfl, rfl, SqT.of hhd, at0, sz (by show 1 ≤ 100000; decide), fun t0 ht0 => ?_⟩
      have s0 := same_new ht0 (.tup [V.str "less"])
      have g0 : upd H t0 (.tup [V.str "less"]) t0 = some (.tup [V.str "less"]) := upd_same
      refine ⟨_, rfl, _, rfl, ?_⟩
      dsimp only [tNoPart]
      refine slA_of (K := K) (lo := some 1) (hi := none) (s0 _ _ l.2) fun p1 H1 s1 h1 => ?_
      rw [show ∀ z : V, cutV (z :: Rfs ys) (some 1) none = Rfs ys from fun z => cut1] at h1
      have s01 := s0.trans s1
      refine ⟨p1, rfl, ⟨_, SqT.of h1⟩, fun D hD => lc_tup (K := K) (a := p1) (xs := Rfs ys) (fun i H' => Same H1 H' ∧ ∃ ss acc, H' D = some (.lst acc) ∧ All2 (STV H') ss acc ∧ ss.map scnt = ((List.ofFn k).take i).map cnt ∧ ∀ s ∈ ss, sGd n s) ⟨same_new hD _, [], [], upd_same, trivial, by rw [List.take_zero]; rfl, (fun s hs => by cases hs)⟩ ?_ ?_ ?_⟩
      · rintro i H' _ ⟨s2, _⟩
        exact SqT.of (s2 _ _ h1)
      · rintro i x H2 hx ⟨s2, ss, acc, h2, k2, e2, g2⟩
        obtain ⟨u, hu, b, rfl, hb⟩ := (all2_fn r).get hx
        obtain ⟨hj, hj2⟩ := List.getElem?_eq_some_iff.mp hu
        have hj3 : i < 2 := by simpa using hj
        obtain ⟨fi, rfl⟩ := List.mem_ofFn.mp (mem_of_get hu)
        have hcu := cnt_mem (mem_of_get hu)
        have s02 := s01.trans s2
        have hl := congrArg List.length e2
        rw [List.length_map, List.length_map, List.length_take] at hl
        have la := k2.len
        refine ⟨rfl, ?_⟩
        dsimp only [tYes]
        refine iteT ⟨_, rfl, _, rfl, b, wd, k fi, xs, N, rfl, hb.mono s02, hok.2 fi, f2 fi, hh fi, by omega, hi.2 fi, hW.same s02, fun H3 b3 s3 t3 hS e3 g3 => ?_⟩
        have tk := tk_put (o := .lst (acc ++ [.ref b3])) (t3 _ _ h2)
        refine ⟨acc, t3 _ _ h2, Nat.lt_of_le_of_lt (m := 100) (by omega) (by decide), same_mut (s2.trans t3) hD, ss ++ [s3], _, upd_same, ((k2.imp fun _ _ z => STV.tk (tk_same t3) z).imp fun _ _ z => z.tk tk).app ⟨⟨b3, rfl, hS.tk tk⟩, trivial⟩, ?_, ?_⟩
        · rw [List.map_append, e2, List.take_succ_eq_append_getElem hj, hj2, List.map_append]
          show _ ++ [scnt s3] = _
          rw [e3]
          rfl
        · intro s hs
          rcases List.mem_append.mp hs with z | z
          · exact g2 s z
          · rw [List.mem_singleton.mp z]
            exact g3
      · rintro H2 ⟨s2, ss, acc, h2, k2, e2, g2⟩
        rw [show (Rfs ys).length = (List.ofFn k).length from by rw [e0]; simp, List.take_length] at e2
        refine ⟨D, acc, rfl, .inl ⟨SqL.of h2, fun p3 hp3 => ?_⟩⟩
        have s3 := same_new hp3 (.tup acc)
        have s13 := s1.trans (s2.trans s3)
        have hl2 := congrArg List.length e2
        rw [List.length_map, List.length_map, List.length_ofFn] at hl2
        obtain ⟨sa, sb, rfl⟩ : ∃ sa sb, ss = [sa, sb] := by
          match ss, hl2 with
          | [sa, sb], _ => exact ⟨sa, sb, rfl⟩
        have la2 := k2.len
        obtain ⟨va, vb, rfl⟩ : ∃ va vb, acc = [va, vb] := by
          match acc, la2 with
          | [va, vb], _ => exact ⟨va, vb, rfl⟩
        · obtain ⟨⟨ba, rfl, hba⟩, ⟨bb, rfl, hbb⟩, _⟩ := k2
          refine catA_of (s13 _ _ g0) upd_same (by show 1 + 2 ≤ 100000; decide) fun p4 H4 s4 h4 => ?_
          have s34 := s3.trans s4
          refine q H4 p4 (.bin true sa sb) (s0.trans (s13.trans s4)) ⟨ba, bb, ?_, hba.tk (tk_same s34), hbb.tk (tk_same s34)⟩ ?_ ⟨g2 sa List.mem_cons_self, g2 sb (List.mem_cons_of_mem _ List.mem_cons_self)⟩
          rotate_left
          · rw [hcm]
            have e3 : [scnt sa, scnt sb] = (List.ofFn k).map cnt := e2
            show 1 + scnt sa + scnt sb = 1 + ((List.ofFn k).map cnt).sum
            rw [← e3]
            show _ = 1 + (scnt sa + (scnt sb + 0))
            omega
          · exact h4
theorem no_shT {f : Addr} {fd : FuncData} : FnOk P w K mg base CX0 0 f fd ["term", "words"] (spShT 0) :=
  ⟨fun vs H Q E h => (by obtain ⟨a, wd, t, xs, N, rfl, _⟩ := h; rfl), fun _ _ _ _ _ _ _ _ _ _ _ _ _ h => (by obtain ⟨_, _, t, _, _, _, _, _, _, hh, _⟩ := h; exact hh.elim)⟩
theorem all_shT (T : Txt K mg) {f : Addr} {fd : FuncData} (F : Fun K "_law_shape_term" "_law_shape_term" s_law_shape_term f fd) (R_law_shape_term : Ref K mg "_law_shape_term" f fd ["term", "words"]) : ∀ n : Nat, FnOk P w K mg base CX0 n f fd ["term", "words"] (spShT n)
  | 0 => no_shT
  | n + 1 => ok_shT T n F (all_shT T F R_law_shape_term n) R_law_shape_term
end
end KB

namespace KB
open PySem L2 HT

section
variable {P : Program} {w : World} {K : PySem.W.Frag} {mg : Str → Option Value} {base : Heap}
/-! ### _law_sign -/
def spSign : Sp := fun vs H Q _ => ∃ (f : Str) (v : V), vs = [.str f, v] ∧ f.length ≤ 1 ∧ ((v = .str "home" ∧ Q (.str "home") H) ∨ ∃ k : Nat, v = .int (k : Int) ∧ k < 676 ∧ Q (.str (sgW f k)) H)
abbrev s_law_sign : Stmt := top 37
theorem scLsign : FnScope ["first", "k", "letters"] ["first", "k"] (defScope s_law_sign) := ⟨rfl, rfl, rfl, by decide +kernel, rfl, by decide +kernel, by decide +kernel⟩
theorem ok_sign {f : Addr} {fd : FuncData} (F : Fun K "_law_sign" "_law_sign" s_law_sign f fd) : FnOk P w K mg base CX0 1 f fd ["first", "k"] spSign := by
  refine F.ok scLsign (fun vs H Q E h => ?_) (fun cdv A outer s H vs Q E hr h => ?_)
  · obtain ⟨f, v, rfl, _⟩ := h
    rfl
  obtain ⟨fs, v, rfl, hf, q⟩ := h
  refine ⟨_, (pss_cons (ps_set (i := 2) scLsign.nd rfl (Or.inl rfl) pe_str)
    (pss_cons (ps_if (pt_cmpR op_eq (pv 1) pe_str (nomark _)) (pss_one (ps_ret (pv 1))) pss_nil)
    (pss_one (ps_ret (pe_op op_add_str (pe_op op_add_str (pv 0) (pe_ix ix_str (pv 2) (pe_op op_fdivN (pv 1) pe_int) (fun _ _ => rfl))) (pe_ix ix_str (pv 2) (pe_op op_modN (pv 1) pe_int) (fun _ _ => rfl))))))), ?_⟩
  rcases q with ⟨rfl, q⟩ | ⟨k, rfl, hk, q⟩
  · exact ⟨_, rfl, rfl, _, rfl, itT rfl ⟨_, rfl, q⟩⟩
  · have e1 : Int.fdiv (k : Int) 26 = ((k / 26 : Nat) : Int) := by
      rw [Int.fdiv_eq_ediv_of_nonneg _ (by decide)]
      rfl
    have e2 : Int.fmod (k : Int) 26 = ((k % 26 : Nat) : Int) := by
      rw [Int.fmod_eq_emod_of_nonneg _ (by decide)]
      rfl
    refine ⟨_, rfl, rfl, _, rfl, itF rfl ?_⟩
    refine ⟨_, rfl, _, rfl, _, rfl, _, _, rfl, rfl, ⟨by decide, by decide⟩, ?_⟩
    dsimp only
    rw [e1]
    refine ⟨lettersS, _, _, rfl, rfl, (by decide +kernel), letters_at (by omega) (by omega), ?_⟩
    rw [Int.toNat_natCast]
    refine ⟨_, _, rfl, rfl, sz (by show fs.length + 1 ≤ 100000; omega), ?_⟩
    refine ⟨_, rfl, _, rfl, _, _, rfl, rfl, (by show (26 : Int) ≠ 0; decide), ?_⟩
    dsimp only
    rw [e2]
    refine ⟨lettersS, _, _, rfl, rfl, (by decide +kernel), letters_at (by omega) (by omega), ?_⟩
    rw [Int.toNat_natCast]
    refine ⟨_, _, rfl, rfl, sz ?_, q⟩
    rw [PySem.Str.length_append]
    show fs.length + 1 + 1 ≤ 100000
    omega
/-! ### _law_said_term -/
def spSdT (n : Nat) : Sp := fun vs H Q _ => ∃ (a : Addr) (s : ST), vs = [.ref a] ∧ STAt H s a ∧ sGd n s ∧ ∀ H' b, Same H H' → At H' (tmS s) b → Q (.ref b) H'
abbrev s_law_said_term : Stmt := top 38
theorem scLsaid_term : FnScope ["term", "one"] ["term"] (defScope s_law_said_term) := ⟨rfl, rfl, rfl, by decide +kernel, rfl, by decide +kernel, by decide +kernel⟩
theorem ok_sdT (T : Txt K mg) (n : Nat) {f f1 : Addr} {fd d1 : FuncData} (F : Fun K "_law_said_term" "_law_said_term" s_law_said_term f fd) (G_law_sign : FnOk P w K mg base CX0 1 f1 d1 ["first", "k"] spSign) (R_law_sign : Ref K mg "_law_sign" f1 d1 ["first", "k"])
    (G_law_said_term : FnOk P w K mg base CX0 (n + 1) f fd ["term"] (spSdT n)) (R_law_said_term : Ref K mg "_law_said_term" f fd ["term"]) : FnOk P w K mg base CX0 (n + 2) f fd ["term"] (spSdT (n + 1)) := by
  refine F.ok scLsaid_term (fun vs H Q E h => ?_) (fun cdv A outer s H vs Q E hr h => ?_)
  · obtain ⟨a, s, rfl, _⟩ := h
    rfl
  obtain ⟨a, s, rfl, hA, hg, q⟩ := h
  refine ⟨_, (pss_cons (ps_if (pt_cmpR op_eq (pe_ix ix_tup (pv 0) pe_int (fun _ _ => rfl)) pe_str (nomark _)) (pss_one (ps_ret (pv 0))) pss_nil)
    (pss_cons (ps_if (pt_cmpR op_eq (pe_ix ix_tup (pv 0) pe_int (fun _ _ => rfl)) pe_str (nomark _)) (pss_one (ps_ret (pe_tup (pa_cons pe_str (pa_cons (pe_call G_law_sign (hr.mono (by omega)) rfl R_law_sign.m R_law_sign.k R_law_sign.b .nil pass0 (pa_cons pe_str (pa_cons (pe_ix ix_tup (pv 0) pe_int (fun _ _ => rfl)) pa_nil))) pa_nil))))) pss_nil)
    (pss_one (ps_ret (pe_op op_catA (pe_tup (pa_cons (pe_ix ix_tup (pv 0) pe_int (fun _ _ => rfl)) pa_nil)) (pe_callTy call_tuple_of (by rfl) T.m_tuple (by decide +kernel) (pa_cons (pe_lc (own := [("one", 1)]) (g := gName 1) (by rfl) scLsaid_term.nd (pi_tup (pe_slice sl_tupA (pv 0) (po_some pe_int) po_none)) (blkOk_by (own := [("one", 1)]) (N := ["term", "one"]) (sc := defScope s_law_said_term) (by decide +kernel)) (fun _ _ _ _ _ => (pg_name (i := 1) scLsaid_term.nd rfl (Or.inl rfl))) (fun _ _ _ _ _ => pts_nil) (fun _ _ _ _ _ => (pe_call G_law_said_term hr rfl R_law_said_term.m R_law_said_term.k R_law_said_term.b .nil pass0 (pa_cons (pv 1) pa_nil)))) pa_nil))))))), ?_⟩
  cases s with
  | num z =>
    have hA' : H a = some (.tup [.str "number", .int z]) := hA
    refine ⟨_, rfl, a, _, _, _, rfl, rfl, SqT.of hA', at0, rfl, _, rfl, itT rfl ⟨_, rfl, q H a (Same.refl H) ?_⟩⟩
    exact at_mkL (vs := []) ⟨rfl, hA'⟩ trivial
  | nam k =>
    have hA' : H a = some (.tup [.str "name", .int (k : Int)]) := hA
    have hk : k < 676 := hg
    refine ⟨_, rfl, a, _, _, _, rfl, rfl, SqT.of hA', at0, rfl, _, rfl, itF rfl ⟨_, rfl, a, _, _, _, rfl, rfl, SqT.of hA', at0, rfl, _, rfl, itT rfl ?_⟩⟩
    refine ⟨_, rfl, a, _, _, _, rfl, rfl, SqT.of hA', at1, "w", _, rfl, by decide +kernel, .inr ⟨k, rfl, hk, sz (by show 2 ≤ 100000; decide), fun p hp => ?_⟩⟩
    exact q _ p (same_new hp _) (at_mkL (vs := []) ⟨rfl, upd_same⟩ trivial)
  | bin l sa sb =>
    obtain ⟨ba, bb, h1, h2, h3⟩ := hA
    obtain ⟨ga, gb⟩ := hg
    have e1 : decide (V.str (binS l) = V.str "number") = false := by cases l <;> rfl
    have e2 : decide (V.str (binS l) = V.str "name") = false := by cases l <;> rfl
    refine ⟨_, rfl, a, _, _, _, rfl, rfl, SqT.of h1, at0, rfl, _, rfl, itF e1 ⟨_, rfl, a, _, _, _, rfl, rfl, SqT.of h1, at0, rfl, _, rfl, itF e2 ?_⟩⟩
    refine ⟨_, rfl, a, _, _, _, rfl, rfl, SqT.of h1, at0, sz (by show 1 ≤ 100000; decide), fun t0 ht0 => ?_⟩
    have s0 := same_new ht0 (.tup [V.str (binS l)])
    have g0 : upd H t0 (.tup [V.str (binS l)]) t0 = some (.tup [V.str (binS l)]) := upd_same
    refine ⟨_, rfl, _, rfl, ?_⟩
    dsimp only [tNoPart]
    refine slA_of (K := K) (lo := some 1) (hi := none) (s0 _ _ h1) fun p1 H1 s1 h5 => ?_
    have h5' : H1 p1 = some (.tup [.ref ba, .ref bb]) := h5
    have s01 := s0.trans s1
    have kk : All2 (STV H1) [sa, sb] [.ref ba, .ref bb] := ⟨⟨ba, rfl, h2.tk (tk_same s01)⟩, ⟨bb, rfl, h3.tk (tk_same s01)⟩, trivial⟩
    refine ⟨p1, rfl, ⟨_, SqT.of h5'⟩, fun D hD => lc_tup (K := K) (a := p1) (xs := [.ref ba, .ref bb]) (fun i H' => Same H1 H' ∧ ∃ acc, H' D = some (.lst acc) ∧ Stk H' acc (([sa, sb].take i).map tmS)) ⟨same_new hD _, [], upd_same, trivial⟩ ?_ ?_ ?_⟩
    · rintro i H' _ ⟨s2, _⟩
      exact SqT.of (s2 _ _ h5')
    · rintro i x H2 hx ⟨s2, acc, g2, k2⟩
      obtain ⟨u, hu, b, rfl, hb⟩ := kk.get hx
      obtain ⟨hj, hj2⟩ := List.getElem?_eq_some_iff.mp hu
      have la := k2.len
      rw [List.length_map, List.length_take] at la
      have hj3 : i < 2 := hj
      have gu : sGd n u := by
        rcases List.mem_cons.mp (mem_of_get hu) with z | z
        · rw [z]; exact ga
        · rw [List.mem_singleton.mp z]; exact gb
      refine ⟨rfl, ?_⟩
      dsimp only [tYes]
      refine iteT ⟨_, rfl, b, u, rfl, hb.tk (tk_same s2), gu, fun H3 b3 s3 h6 => ?_⟩
      have tk := tk_put (o := .lst (acc ++ [.ref b3])) (s3 _ _ g2)
      refine ⟨acc, s3 _ _ g2, Nat.lt_of_le_of_lt (m := 100) (by omega) (by decide), same_mut (s2.trans s3) hD, _, upd_same, ?_⟩
      rw [List.take_succ_eq_append_getElem hj, hj2, List.map_append]
      exact ((k2.mono s3).tk tk).app ⟨⟨b3, rfl, h6.tk tk⟩, trivial⟩
    · rintro H2 ⟨s2, acc, g2, k2⟩
      refine ⟨D, acc, rfl, .inl ⟨SqL.of g2, fun p3 hp3 => ?_⟩⟩
      have s3 := same_new hp3 (.tup acc)
      have s13 := s1.trans (s2.trans s3)
      have la := k2.len
      have hlen : acc.length = 2 := la
      refine catA_of (s13 _ _ g0) upd_same (by show 1 + acc.length ≤ 100000; omega) fun p4 H4 s4 h4 => ?_
      have k4 : Stk H4 acc [tmS sa, tmS sb] := (k2.mono s3).mono s4
      refine q H4 p4 (s0.trans (s13.trans s4)) ?_
      cases l with
      | true => exact at_mkL (h := .less) (vs := acc) ⟨hlen, h4⟩ k4
      | false => exact at_mkL (h := .plus) (vs := acc) ⟨hlen, h4⟩ k4
theorem no_sdT {f : Addr} {fd : FuncData} : FnOk P w K mg base CX0 1 f fd ["term"] (spSdT 0) :=
  ⟨fun vs H Q E h => (by obtain ⟨a, s, rfl, _⟩ := h; rfl), fun _ _ _ _ _ _ _ _ _ _ _ _ _ h => (by obtain ⟨_, s, _, _, hh, _⟩ := h; exact hh.elim)⟩
theorem all_sdT (T : Txt K mg) {f f1 : Addr} {fd d1 : FuncData} (F : Fun K "_law_said_term" "_law_said_term" s_law_said_term f fd) (G_law_sign : FnOk P w K mg base CX0 1 f1 d1 ["first", "k"] spSign) (R_law_sign : Ref K mg "_law_sign" f1 d1 ["first", "k"]) (R_law_said_term : Ref K mg "_law_said_term" f fd ["term"]) : ∀ n : Nat, FnOk P w K mg base CX0 (n + 1) f fd ["term"] (spSdT n)
  | 0 => no_sdT
  | n + 1 => ok_sdT T n F G_law_sign R_law_sign (all_sdT T F G_law_sign R_law_sign R_law_said_term n) R_law_said_term
end
end KB

namespace KB
open PySem L2 HT

/-! ### parts whose words are numbers -/
inductive SP
  | give (h : Option Nat) (t : ST)
  | ask (f : Str) (ts : List ST) (h : Option Nat)
  | tell (k : Nat) (t : ST) (p : SP)
  | lett (k : Nat) (t : ST) (p : SP)
  | iff (t : ST) (p q : SP)
  | post (m k : Nat) (p q : SP)
def hV : Option Nat → V
  | none => .str "home"
  | some k => .int (k : Int)
def SPAt (H : Hp) : SP → Addr → Prop
  | .give h t, a => ∃ b, H a = some (.tup [.str "give", hV h, .ref b]) ∧ STAt H t b
  | .ask f ts h, a => ∃ q vs, H a = some (.tup [.str "ask", .str f, .ref q, hV h]) ∧ H q = some (.tup vs) ∧ All2 (STV H) ts vs
  | .tell k t p, a => ∃ b c, H a = some (.tup [.str "tell", .int (k : Int), .ref b, .ref c]) ∧ STAt H t b ∧ SPAt H p c
  | .lett k t p, a => ∃ b c, H a = some (.tup [.str "let", .int (k : Int), .ref b, .ref c]) ∧ STAt H t b ∧ SPAt H p c
  | .iff t p q, a => ∃ b c d, H a = some (.tup [.str "if", .ref b, .ref c, .ref d]) ∧ STAt H t b ∧ SPAt H p c ∧ SPAt H q d
  | .post m k p q, a => ∃ c d, H a = some (.tup [.str "post", .int (m : Int), .int (k : Int), .ref c, .ref d]) ∧ SPAt H p c ∧ SPAt H q d
theorem SPAt.tk {H H' : Hp} (k : TK H H') : ∀ {p : SP} {a : Addr}, SPAt H p a → SPAt H' p a
  | .give h t, a, ⟨b, h1, h2⟩ => ⟨b, k _ _ h1, h2.tk k⟩
  | .ask f ts h, a, ⟨q, vs, h1, h2, h3⟩ => ⟨q, vs, k _ _ h1, k _ _ h2, h3.imp fun _ _ z => z.tk k⟩
  | .tell x t p, a, ⟨b, c, h1, h2, h3⟩ => ⟨b, c, k _ _ h1, h2.tk k, SPAt.tk k h3⟩
  | .lett x t p, a, ⟨b, c, h1, h2, h3⟩ => ⟨b, c, k _ _ h1, h2.tk k, SPAt.tk k h3⟩
  | .iff t p q, a, ⟨b, c, d, h1, h2, h3, h4⟩ => ⟨b, c, d, k _ _ h1, h2.tk k, SPAt.tk k h3, SPAt.tk k h4⟩
  | .post m x p q, a, ⟨c, d, h1, h2, h3⟩ => ⟨c, d, k _ _ h1, SPAt.tk k h2, SPAt.tk k h3⟩
def hG (h : Option Nat) : Prop := ∀ k, h = some k → k < 676
structure tG (t : ST) : Prop where
  g : sGd 2 t
  c : scnt t ≤ 3
def spG : SP → Prop
  | .give h t => hG h ∧ tG t
  | .ask f ts h => hG h ∧ isW f = true ∧ ts.length ≤ 4 ∧ ∀ t ∈ ts, tG t
  | .tell k t p => k < 676 ∧ tG t ∧ spG p
  | .lett k t p => k < 676 ∧ tG t ∧ spG p
  | .iff t p q => tG t ∧ spG p ∧ spG q
  | .post m k p q => m < 676 ∧ k < 676 ∧ spG p ∧ spG q
def spcnt : SP → Nat
  | .give _ _ => 1
  | .ask _ _ _ => 1
  | .tell _ _ p => 1 + spcnt p
  | .lett _ _ p => 1 + spcnt p
  | .iff _ p q => 1 + spcnt p + spcnt q
  | .post _ _ p q => 1 + spcnt p + spcnt q
def spht : SP → Nat
  | .give _ _ => 1
  | .ask _ _ _ => 1
  | .tell _ _ p => 1 + spht p
  | .lett _ _ p => 1 + spht p
  | .iff _ p q => 1 + max (spht p) (spht q)
  | .post _ _ p q => 1 + max (spht p) (spht q)
/-- the dict of hand-ons' numbers -/
def HdAt (H : Hp) (hd : Addr) (js : List Str) (N : Nat) : Prop := ∃ kvs : List (Key × V), H hd = some (.dK kvs) ∧ kvs.length ≤ N + 1 ∧ ∀ j ∈ js, ∃ o : Option Nat, valV kvs (Sum.inr j) = some (hV o) ∧ hG o
theorem HdAt.but {H H' : Hp} {hd nw : Addr} {js : List Str} {N : Nat} {zs : List V} (hw : H nw = some (.lst zs)) (e : But1 nw H H') (h : HdAt H hd js N) : HdAt H' hd js N := by
  obtain ⟨kvs, h1, h2, h3⟩ := h
  exact ⟨kvs, e _ _ (fun z => by rw [z, hw] at h1; cases h1) h1, h2, h3⟩
theorem WdAt.le {H : Hp} {wd : Addr} {xs : List Str} {N M : Nat} (h : WdAt H wd xs N) (l : N ≤ M) : WdAt H wd xs M := by
  obtain ⟨kvs, h1, h2, h3⟩ := h
  exact ⟨kvs, h1, Nat.le_trans h2 l, h3⟩
theorem HdAt.le {H : Hp} {wd : Addr} {xs : List Str} {N M : Nat} (h : HdAt H wd xs N) (l : N ≤ M) : HdAt H wd xs M := by
  obtain ⟨kvs, h1, h2, h3⟩ := h
  exact ⟨kvs, h1, Nat.le_trans h2 (Nat.succ_le_succ l), h3⟩
theorem But1.tkL {nw : Addr} {H H' : Hp} {zs : List V} (hw : H nw = some (.lst zs)) (e : But1 nw H H') : TK H H' := fun a xs h => e a _ (fun z => by rw [z, hw] at h; cases h) h
theorem put_wd {H : Hp} {inn : Addr} {kvs : List (Key × V)} {xs : List Str} {x : Str} {k N : Nat} (h1 : H inn = some (.dK (putK kvs (Sum.inr x) (.int (k : Int))))) (hl : kvs.length ≤ N) (hk : k < 676) (h : ∀ x ∈ xs, ∃ k : Nat, valV kvs (Sum.inr x) = some (.int (k : Int)) ∧ k < 676) : WdAt H inn (xs ++ [x]) (N + 1) := by
  refine ⟨_, h1, by have := length_putK kvs (Sum.inr x : Key) (.int (k : Int)); omega, fun y hy => ?_⟩
  rw [valV_put]
  by_cases c : (Sum.inr y : Key) = Sum.inr x
  · rw [if_pos c]
    exact ⟨k, rfl, hk⟩
  · rw [if_neg c]
    rcases List.mem_append.mp hy with z | z
    · exact h y z
    · exact absurd (congrArg Sum.inr (List.mem_singleton.mp z)) c
theorem put_hd {H : Hp} {inn : Addr} {kvs : List (Key × V)} {xs : List Str} {x : Str} {k N : Nat} (h1 : H inn = some (.dK (putK kvs (Sum.inr x) (.int (k : Int))))) (hl : kvs.length ≤ N + 1) (hk : k < 676) (h : ∀ j ∈ xs, ∃ o : Option Nat, valV kvs (Sum.inr j) = some (hV o) ∧ hG o) : HdAt H inn (xs ++ [x]) (N + 1) := by
  refine ⟨_, h1, by have := length_putK kvs (Sum.inr x : Key) (.int (k : Int)); omega, fun y hy => ?_⟩
  rw [valV_put]
  by_cases c : (Sum.inr y : Key) = Sum.inr x
  · rw [if_pos c]
    exact ⟨some k, rfl, fun i e => by cases e; exact hk⟩
  · rw [if_neg c]
    rcases List.mem_append.mp hy with z | z
    · exact h y z
    · exact absurd (congrArg Sum.inr (List.mem_singleton.mp z)) c
theorem put_get {kvs : List (Key × V)} {x : Str} {v : V} : valV (putK kvs (Sum.inr x) v) (Sum.inr x : Key) = some v := by
  rw [valV_put, if_pos rfl]
section
variable {P : Program} {w : World} {K : PySem.W.Frag} {mg : Str → Option Value} {base : Heap}
/-! ### _law_shape_part -/
def nwL (a b : Nat) : HO := .lst [.int (a : Int), .int (b : Int)]
def spShP (n : Nat) : Sp := fun vs H Q _ => ∃ (a wd hd nw : Addr) (p : Pt) (xs js : List Str) (n0 n1 : Nat), vs = [.ref a, .ref wd, .ref hd, .ref nw] ∧ PAt H p a ∧ scP p xs js ∧ WdAt H wd xs n0 ∧ HdAt H hd js n1 ∧ H nw = some (nwL n0 n1) ∧ pcnt p ≤ n ∧ n0 + pcnt p ≤ 400 ∧ n1 + pcnt p ≤ 400 ∧
  ∀ H' r s m0 m1, But1 nw H H' → H' nw = some (nwL m0 m1) → n0 ≤ m0 → m0 ≤ n0 + pcnt p → n1 ≤ m1 → m1 ≤ n1 + pcnt p → SPAt H' s r → spG s → spcnt s = pcnt p → spht s = htP p → Q (.ref r) H'
abbrev s_law_shape_part : Stmt := top 23
theorem scLshape_part : FnScope ["part", "words", "hands", "now", "one", "choice", "inner", "x", "term", "posts"] ["part", "words", "hands", "now"] (defScope s_law_shape_part) := ⟨rfl, rfl, rfl, by decide +kernel, rfl, by decide +kernel, by decide +kernel⟩
theorem ok_shP (T : Txt K mg) {n : Nat} {f f1 : Addr} {fd d1 : FuncData} (F : Fun K "_law_shape_part" "_law_shape_part" s_law_shape_part f fd) (G_law_shape_part : FnOk P w K mg base CX0 (n + 3) f fd ["part", "words", "hands", "now"] (spShP n)) (R_law_shape_part : Ref K mg "_law_shape_part" f fd ["part", "words", "hands", "now"])
    (G_law_shape_term : FnOk P w K mg base CX0 2 f1 d1 ["term", "words"] (spShT 2)) (R_law_shape_term : Ref K mg "_law_shape_term" f1 d1 ["term", "words"]) : FnOk P w K mg base CX0 (n + 4) f fd ["part", "words", "hands", "now"] (spShP (n + 1)) := by
  refine F.ok scLshape_part (fun vs H Q E h => ?_) (fun cdv A outer s H vs Q E hr h => ?_)
  · obtain ⟨a, wd, hd, nw, p, xs, js, n0, n1, rfl, _⟩ := h
    rfl
  obtain ⟨a, wd, hd, nw, p, xs, js, n0, n1, rfl, hA, hsc, hW, hH, hw, hn, hb0, hb1, q⟩ := h
  refine ⟨_, (pss_cons (ps_if (pt_cmpR op_eq (pe_ix ix_tup (pv 0) pe_int (fun _ _ => rfl)) pe_str (nomark _)) (pss_one (ps_ret (pe_tup (pa_cons pe_str (pa_cons (pe_dget (hu_of hr) (pv 2) (pe_ix ix_tup (pv 0) pe_int (fun _ _ => rfl)) (fun _ _ => rfl)) (pa_cons (pe_call G_law_shape_term (hr.mono (by omega)) rfl R_law_shape_term.m R_law_shape_term.k R_law_shape_term.b .nil pass0 (pa_cons (pe_ix ix_tup (pv 0) pe_int (fun _ _ => rfl)) (pa_cons (pv 1) pa_nil))) pa_nil)))))) pss_nil)
    (pss_cons (ps_if (pt_cmpR op_eq (pe_ix ix_tup (pv 0) pe_int (fun _ _ => rfl)) pe_str (nomark _)) (pss_one (ps_ret (pe_tup (pa_cons pe_str (pa_cons (pe_ix ix_tup (pv 0) pe_int (fun _ _ => rfl)) (pa_cons (pe_callTy call_tuple_of (by rfl) T.m_tuple (by decide +kernel) (pa_cons (pe_lc (own := [("one", 4)]) (g := gName 4) (by rfl) scLshape_part.nd (pi_tup (pe_ix ix_tup (pv 0) pe_int (fun _ _ => rfl))) (blkOk_by (own := [("one", 4)]) (N := ["part", "words", "hands", "now", "one", "choice", "inner", "x", "term", "posts"]) (sc := defScope s_law_shape_part) (by decide +kernel)) (fun _ _ _ _ _ => (pg_name (i := 4) scLshape_part.nd rfl (Or.inl rfl))) (fun _ _ _ _ _ => pts_nil) (fun _ _ _ _ _ => (pe_call G_law_shape_term (hr.mono (by omega)) rfl R_law_shape_term.m R_law_shape_term.k R_law_shape_term.b .nil pass0 (pa_cons (pv 4) (pa_cons (pv 1) pa_nil))))) pa_nil)) (pa_cons (pe_dget (hu_of hr) (pv 2) (pe_ix ix_tup (pv 0) pe_int (fun _ _ => rfl)) (fun _ _ => rfl)) pa_nil))))))) pss_nil)
    (pss_cons (ps_if (pt_cmpR op_eq (pe_ix ix_tup (pv 0) pe_int (fun _ _ => rfl)) pe_str (nomark _)) (pss_cons (ps_set (i := 5) scLshape_part.nd rfl (Or.inl rfl) (pe_call G_law_shape_term (hr.mono (by omega)) rfl R_law_shape_term.m R_law_shape_term.k R_law_shape_term.b .nil pass0 (pa_cons (pe_ix ix_tup (pv 0) pe_int (fun _ _ => rfl)) (pa_cons (pv 1) pa_nil))))
    (pss_cons (ps_set (i := 4) scLshape_part.nd rfl (Or.inl rfl) (pe_call G_law_shape_part (hr.mono (by omega)) rfl R_law_shape_part.m R_law_shape_part.k R_law_shape_part.b .nil pass0 (pa_cons (pe_ix ix_tup (pv 0) pe_int (fun _ _ => rfl)) (pa_cons (pv 1) (pa_cons (pv 2) (pa_cons (pv 3) pa_nil))))))
    (pss_one (ps_ret (pe_tup (pa_cons pe_str (pa_cons (pv 5) (pa_cons (pv 4) (pa_cons (pe_call G_law_shape_part (hr.mono (by omega)) rfl R_law_shape_part.m R_law_shape_part.k R_law_shape_part.b .nil pass0 (pa_cons (pe_ix ix_tup (pv 0) pe_int (fun _ _ => rfl)) (pa_cons (pv 1) (pa_cons (pv 2) (pa_cons (pv 3) pa_nil))))) pa_nil))))))))) pss_nil)
    (pss_cons (ps_set (i := 6) scLshape_part.nd rfl (Or.inl rfl) (pe_callTy call_dictD (by rfl) T.m_dict (by decide +kernel) (pa_cons (pv 1) pa_nil)))
    (pss_cons (ps_set (i := 7) scLshape_part.nd rfl (Or.inl rfl) (pe_ix ix_tup (pv 0) (pe_op op_add pe_int (pe_callTy call_int1 (by rfl) T.m_int (by decide +kernel) (pa_cons (pe_cmpR op_eq (pe_ix ix_tup (pv 0) pe_int (fun _ _ => rfl)) pe_str (nomark _)) pa_nil))) (fun _ _ => rfl)))
    (pss_cons (ps_dput (hu_of hr) (pv 6) (pv 7) (pe_ix ix_list (pv 3) pe_int (fun _ _ => rfl)) rfl)
    (pss_cons (ps_asg (pe_op op_add (pe_ix ix_list (pv 3) pe_int (fun _ _ => rfl)) pe_int) (pg_sub (pv 3) pe_int set_list))
    (pss_cons (ps_if (pt_cmpR op_ne (pe_ix ix_tup (pv 0) pe_int (fun _ _ => rfl)) pe_str (nomark _)) (pss_cons (ps_set (i := 8) scLshape_part.nd rfl (Or.inl rfl) (pe_call G_law_shape_term (hr.mono (by omega)) rfl R_law_shape_term.m R_law_shape_term.k R_law_shape_term.b .nil pass0 (pa_cons (pe_ix ix_tup (pv 0) pe_int (fun _ _ => rfl)) (pa_cons (pv 1) pa_nil))))
    (pss_one (ps_ret (pe_tup (pa_cons (pe_ix ix_tup (pv 0) pe_int (fun _ _ => rfl)) (pa_cons (pe_dget (hu_of hr) (pv 6) (pv 7) (fun _ _ => rfl)) (pa_cons (pv 8) (pa_cons (pe_call G_law_shape_part (hr.mono (by omega)) rfl R_law_shape_part.m R_law_shape_part.k R_law_shape_part.b .nil pass0 (pa_cons (pe_ix ix_tup (pv 0) pe_int (fun _ _ => rfl)) (pa_cons (pv 6) (pa_cons (pv 2) (pa_cons (pv 3) pa_nil))))) pa_nil)))))))) pss_nil)
    (pss_cons (ps_set (i := 9) scLshape_part.nd rfl (Or.inl rfl) (pe_callTy call_dictD (by rfl) T.m_dict (by decide +kernel) (pa_cons (pv 2) pa_nil)))
    (pss_cons (ps_dput (hu_of hr) (pv 9) (pe_ix ix_tup (pv 0) pe_int (fun _ _ => rfl)) (pe_ix ix_list (pv 3) pe_int (fun _ _ => rfl)) rfl)
    (pss_cons (ps_asg (pe_op op_add (pe_ix ix_list (pv 3) pe_int (fun _ _ => rfl)) pe_int) (pg_sub (pv 3) pe_int set_list))
    (pss_cons (ps_set (i := 4) scLshape_part.nd rfl (Or.inl rfl) (pe_call G_law_shape_part (hr.mono (by omega)) rfl R_law_shape_part.m R_law_shape_part.k R_law_shape_part.b .nil pass0 (pa_cons (pe_ix ix_tup (pv 0) pe_int (fun _ _ => rfl)) (pa_cons (pv 6) (pa_cons (pv 2) (pa_cons (pv 3) pa_nil))))))
    (pss_one (ps_ret (pe_tup (pa_cons pe_str (pa_cons (pe_dget (hu_of hr) (pv 9) (pe_ix ix_tup (pv 0) pe_int (fun _ _ => rfl)) (fun _ _ => rfl)) (pa_cons (pe_dget (hu_of hr) (pv 6) (pv 7) (fun _ _ => rfl)) (pa_cons (pv 4) (pa_cons (pe_call G_law_shape_part (hr.mono (by omega)) rfl R_law_shape_part.m R_law_shape_part.k R_law_shape_part.b .nil pass0 (pa_cons (pe_ix ix_tup (pv 0) pe_int (fun _ _ => rfl)) (pa_cons (pv 1) (pa_cons (pv 9) (pa_cons (pv 3) pa_nil))))) pa_nil)))))))))))))))))))), ?_⟩
  have big : ∀ {k : Nat}, k ≤ 1000 → k < sizeLine := fun h => Nat.lt_of_le_of_lt h (by decide)
  obtain ⟨r0, hd0⟩ := hA.head
  refine ⟨_, rfl, a, _, _, _, rfl, rfl, SqT.of hd0, at0, rfl, _, rfl, ?_⟩
  cases p with
  | give j t =>
    obtain ⟨b, h1, h2⟩ := hA
    obtain ⟨kvs, g1, g2, g3⟩ := hH
    obtain ⟨o, o1, o2⟩ := g3 j hsc.1
    have gt := hsc.2.s
    refine itT rfl ⟨_, rfl, _, rfl, a, _, _, _, rfl, rfl, SqT.of h1, at1, hd, _, rfl, get_of g1 o1, _, rfl, a, _, _, _, rfl, rfl, SqT.of h1, at2, _, rfl, b, wd, t, xs, n0, rfl, h2, gt.ok, gt.si, gt.ht, Nat.le_trans gt.cn (by decide), hsc.2.i, hW, fun H1 b1 s1 e1 hS hc1 hg1 => ?_⟩
    refine ⟨sz (by show 3 ≤ 100000; decide), fun r hr1 => ?_⟩
    have s2 := same_new hr1 (.tup [.str "give", hV o, .ref b1])
    exact q _ r (.give o s1) n0 n1 (but_same (e1.trans s2)) ((e1.trans s2) _ _ hw) (Nat.le_refl _) (by omega) (Nat.le_refl _) (by omega) ⟨b1, upd_same, hS.tk (tk_same s2)⟩ ⟨o2, hg1, by rw [hc1]; exact gt.cn⟩ rfl rfl
  | ask g ts j =>
    obtain ⟨qa, vs, h1, h2, h3⟩ := hA
    obtain ⟨kvs, g1, g2, g3⟩ := hH
    obtain ⟨o, o1, o2⟩ := g3 j hsc.1
    have hl3 := h3.len
    have ht4 := hsc.2.2.1
    refine itF rfl ⟨_, rfl, a, _, _, _, rfl, rfl, SqT.of h1, at0, rfl, _, rfl, itT rfl ?_⟩
    refine ⟨_, rfl, a, _, _, _, rfl, rfl, SqT.of h1, at1, _, rfl, a, _, _, _, rfl, rfl, SqT.of h1, at2, qa, rfl, ⟨_, SqT.of h2⟩, fun D hD => lc_tup (K := K) (a := qa) (xs := vs) (fun i H' => Same H H' ∧ ∃ ss acc, H' D = some (.lst acc) ∧ All2 (STV H') ss acc ∧ ss.length = (ts.take i).length ∧ ∀ s ∈ ss, tG s) ⟨same_new hD _, [], [], upd_same, trivial, (by simp), (fun s hs => by cases hs)⟩ ?_ ?_ ?_⟩
    · rintro i H' _ ⟨s2, _⟩
      exact SqT.of (s2 _ _ h2)
    · rintro i x H2 hx ⟨s2, ss, acc, k1, k2, k3, k4⟩
      obtain ⟨u, hu, b, rfl, hb⟩ := h3.get hx
      obtain ⟨hj, hj2⟩ := List.getElem?_eq_some_iff.mp hu
      have gu := hsc.2.2.2 u (mem_of_get hu)
      have la := k2.len
      rw [List.length_take] at k3
      refine ⟨rfl, ?_⟩
      dsimp only [tYes]
      refine iteT ⟨_, rfl, _, rfl, b, wd, u, xs, n0, rfl, hb.mono s2, gu.s.ok, gu.s.si, gu.s.ht, Nat.le_trans gu.s.cn (by decide), gu.i, hW.same s2, fun H3 b3 s3 e3 hS hc3 hg3 => ?_⟩
      have tk := tk_put (o := .lst (acc ++ [.ref b3])) (e3 _ _ k1)
      refine ⟨acc, e3 _ _ k1, Nat.lt_of_le_of_lt (m := 100) (by omega) (by decide), same_mut (s2.trans e3) hD, ss ++ [s3], _, upd_same, ((k2.imp fun _ _ z => STV.tk (tk_same e3) z).imp fun _ _ z => z.tk tk).app ⟨⟨b3, rfl, hS.tk tk⟩, trivial⟩, ?_, ?_⟩
      · rw [List.length_append, List.length_take, List.length_singleton]
        omega
      · intro s hs
        rcases List.mem_append.mp hs with z | z
        · exact k4 s z
        · rw [List.mem_singleton.mp z]
          exact ⟨hg3, by rw [hc3]; exact gu.s.cn⟩
    · rintro H2 ⟨s2, ss, acc, k1, k2, k3, k4⟩
      rw [hl3, List.take_length] at k3
      refine ⟨D, acc, rfl, .inl ⟨SqL.of k1, fun p3 hp3 => ?_⟩⟩
      have s3 := same_new hp3 (.tup acc)
      have s23 := s2.trans s3
      refine ⟨_, rfl, _, rfl, a, _, _, _, rfl, rfl, SqT.of (s23 _ _ h1), at3, hd, _, rfl, get_of (s23 _ _ g1) o1, sz (by show 4 ≤ 100000; decide), fun r hr1 => ?_⟩
      have s4 := same_new hr1 (.tup [.str "ask", .str g, .ref p3, hV o])
      have s24 := s23.trans s4
      exact q _ r (.ask g ss o) n0 n1 (but_same s24) (s24 _ _ hw) (Nat.le_refl _) (by omega) (Nat.le_refl _) (by omega) ⟨p3, acc, upd_same, s4 _ _ upd_same, k2.imp fun _ _ z => STV.tk (tk_same (s3.trans s4)) z⟩ ⟨o2, hsc.2.1, by omega, k4⟩ rfl rfl
  | iff t p1 p2 =>
    obtain ⟨b, c, d, h1, h2, h3, h4⟩ := hA
    have gt := hsc.1.s
    have hpc : pcnt (Pt.iff t p1 p2) = 1 + pcnt p1 + pcnt p2 := rfl
    have hp1 := pc_pos p1
    have hp2 := pc_pos p2
    refine itF rfl ⟨_, rfl, a, _, _, _, rfl, rfl, SqT.of h1, at0, rfl, _, rfl, itF rfl ⟨_, rfl, a, _, _, _, rfl, rfl, SqT.of h1, at0, rfl, _, rfl, itT rfl ?_⟩⟩
    refine ⟨_, rfl, a, _, _, _, rfl, rfl, SqT.of h1, at1, _, rfl, b, wd, t, xs, n0, rfl, h2, gt.ok, gt.si, gt.ht, Nat.le_trans gt.cn (by decide), hsc.1.i, hW, fun H1 b1 s1 e1 hS hc1 hg1 => ?_⟩
    refine ⟨_, rfl, a, _, _, _, rfl, rfl, SqT.of (e1 _ _ h1), at2, _, rfl, _, rfl, _, rfl, c, wd, hd, nw, p1, xs, js, n0, n1, rfl, h3.tk (tk_same e1), hsc.2.1, hW.same e1, hH.but hw (but_same e1), e1 _ _ hw, by omega, by omega, by omega, fun H2 r2 s2 m0 m1 b2 w2 a1 a2 a3 a4 hS2 hG2 hc2 hh2 => ?_⟩
    have tk2 := But1.tkL (e1 _ _ hw) b2
    have tk12 := (tk_same e1).trans tk2
    refine ⟨_, rfl, _, rfl, _, rfl, a, _, _, _, rfl, rfl, SqT.of (tk12 _ _ h1), at3, _, rfl, _, rfl, _, rfl, d, wd, hd, nw, p2, xs, js, m0, m1, rfl, h4.tk tk12, hsc.2.2, ((hW.same e1).but (e1 _ _ hw) b2).le a1, ((hH.but hw (but_same e1)).but (e1 _ _ hw) b2).le a3, w2, by omega, by omega, by omega, fun H3 r3 s3 k0 k1 b3 w3 c1 c2 c3 c4 hS3 hG3 hc3 hh3 => ?_⟩
    have tk3 := But1.tkL w2 b3
    refine ⟨sz (by show 4 ≤ 100000; decide), fun r hr1 => ?_⟩
    have s4 := same_new hr1 (.tup [.str "if", .ref b1, .ref r2, .ref r3])
    refine q _ r (.iff s1 s2 s3) k0 k1 ((but_same e1).trans (b2.trans (b3.trans (but_same s4)))) (s4 _ _ w3) (by omega) (by omega) (by omega) (by omega) ⟨b1, r2, r3, upd_same, hS.tk (tk2.trans (tk3.trans (tk_same s4))), hS2.tk (tk3.trans (tk_same s4)), hS3.tk (tk_same s4)⟩ ⟨⟨hg1, by rw [hc1]; exact gt.cn⟩, hG2, hG3⟩ ?_ ?_
    · show 1 + spcnt s2 + spcnt s3 = 1 + pcnt p1 + pcnt p2
      rw [hc2, hc3]
    · show 1 + max (spht s2) (spht s3) = 1 + max (htP p1) (htP p2)
      rw [hh2, hh3]
  | tell x t p1 =>
    obtain ⟨b, c, h1, h2, h3⟩ := hA
    have gt := hsc.1.s
    have hpc : pcnt (Pt.tell x t p1) = 1 + pcnt p1 := rfl
    obtain ⟨kw, w1, w2, w3⟩ := hW
    refine itF rfl ⟨_, rfl, a, _, _, _, rfl, rfl, SqT.of h1, at0, rfl, _, rfl, itF rfl ⟨_, rfl, a, _, _, _, rfl, rfl, SqT.of h1, at0, rfl, _, rfl, itF rfl ?_⟩⟩
    refine ⟨_, rfl, wd, kw, rfl, .inl w1, fun inn hin => ?_⟩
    have s1 := same_new hin (.dK kw)
    refine ⟨_, rfl, _, rfl, a, _, _, _, rfl, rfl, SqT.of (s1 _ _ h1), at0, rfl, .inr ⟨_, rfl, _, _, rfl, rfl, a, _, _, _, rfl, rfl, SqT.of (s1 _ _ h1), at1, ?_⟩⟩
    refine ⟨_, rfl, nw, _, _, _, rfl, rfl, SqL.of (s1 _ _ hw), at0, _, rfl, _, rfl, inn, _, rfl, DPut.k (k := Sum.inr x) upd_same (big (by omega)), ?_⟩
    have sA : Same H (upd (upd H inn (.dK kw)) inn (.dK (putK kw (Sum.inr x) (.int (n0 : Int))))) := same_mut s1 hin
    have iA : upd (upd H inn (.dK kw)) inn (.dK (putK kw (Sum.inr x) (.int (n0 : Int)))) inn = some (.dK (putK kw (Sum.inr x) (.int (n0 : Int)))) := upd_same
    clear s1
    generalize upd (upd H inn (.dK kw)) inn (.dK (putK kw (Sum.inr x) (.int (n0 : Int)))) = H2 at sA iA
    refine ⟨_, rfl, nw, _, _, _, rfl, rfl, SqL.of (sA _ _ hw), at0, _, _, rfl, rfl, _, rfl, nw, _, _, 0, rfl, rfl, sA _ _ hw, rfl, ?_⟩
    have b3 : But1 nw H (upd H2 nw (nwL (n0 + 1) n1)) := but_put sA
    have w3' : upd H2 nw (nwL (n0 + 1) n1) nw = some (nwL (n0 + 1) n1) := upd_same
    have i3 : upd H2 nw (nwL (n0 + 1) n1) inn = some (.dK (putK kw (Sum.inr x) (.int (n0 : Int)))) := by
      rw [upd_ne (fun z => by rw [z, sA _ _ hw] at iA; cases iA)]
      exact iA
    dsimp only [List.set]
    rw [show HO.lst [V.int ((n0 : Int) + 1), V.int (n1 : Int)] = nwL (n0 + 1) n1 from rfl]
    generalize upd H2 nw (nwL (n0 + 1) n1) = H3 at b3 w3' i3 ⊢
    have tk3 := But1.tkL hw b3
    have hW3 : WdAt H3 wd xs n0 := (WdAt.but hw b3 ⟨kw, w1, w2, w3⟩)
    have hI3 : WdAt H3 inn (xs ++ [x]) (n0 + 1) := put_wd i3 w2 (by omega) w3
    have hH3 := hH.but hw b3
    refine ⟨_, rfl, a, _, _, _, rfl, rfl, SqT.of (tk3 _ _ h1), at0, rfl, _, rfl, itT rfl ?_⟩
    refine ⟨_, rfl, a, _, _, _, rfl, rfl, SqT.of (tk3 _ _ h1), at2, _, rfl, b, wd, t, xs, n0, rfl, h2.tk tk3, gt.ok, gt.si, gt.ht, Nat.le_trans gt.cn (by decide), hsc.1.i, hW3, fun H4 b4 s4 e4 hS hc4 hg4 => ?_⟩
    have tk4 := tk3.trans (tk_same e4)
    refine ⟨_, rfl, a, _, _, _, rfl, rfl, SqT.of (tk4 _ _ h1), at0, _, rfl, _, rfl, inn, _, rfl, get_of (e4 _ _ i3) put_get, _, rfl, _, rfl, a, _, _, _, rfl, rfl, SqT.of (tk4 _ _ h1), at3, _, rfl, _, rfl, _, rfl, c, inn, hd, nw, p1, xs ++ [x], js, n0 + 1, n1, rfl, h3.tk tk4, hsc.2, hI3.same e4, hH3.but w3' (but_same e4), e4 _ _ w3', by omega, by omega, by omega, fun H5 r5 s5 m0 m1 b5 w5 a1 a2 a3 a4 hS5 hG5 hc5 hh5 => ?_⟩
    have tk5 := But1.tkL (e4 _ _ w3') b5
    refine ⟨sz (by show 4 ≤ 100000; decide), fun r hr1 => ?_⟩
    have s6 := same_new hr1 (.tup [.str "tell", .int (n0 : Int), .ref b4, .ref r5])
    refine q _ r (.tell n0 s4 s5) m0 m1 (b3.trans ((but_same e4).trans (b5.trans (but_same s6)))) (s6 _ _ w5) (by omega) (by omega) (by omega) (by omega) ⟨b4, r5, upd_same, hS.tk (tk5.trans (tk_same s6)), hS5.tk (tk_same s6)⟩ ⟨by omega, ⟨hg4, by rw [hc4]; exact gt.cn⟩, hG5⟩ ?_ ?_
    · show 1 + spcnt s5 = 1 + pcnt p1
      rw [hc5]
    · show 1 + spht s5 = 1 + htP p1
      rw [hh5]
  | lett x t p1 =>
    obtain ⟨b, c, h1, h2, h3⟩ := hA
    have gt := hsc.1.s
    have hpc : pcnt (Pt.lett x t p1) = 1 + pcnt p1 := rfl
    obtain ⟨kw, w1, w2, w3⟩ := hW
    refine itF rfl ⟨_, rfl, a, _, _, _, rfl, rfl, SqT.of h1, at0, rfl, _, rfl, itF rfl ⟨_, rfl, a, _, _, _, rfl, rfl, SqT.of h1, at0, rfl, _, rfl, itF rfl ?_⟩⟩
    refine ⟨_, rfl, wd, kw, rfl, .inl w1, fun inn hin => ?_⟩
    have s1 := same_new hin (.dK kw)
    refine ⟨_, rfl, _, rfl, a, _, _, _, rfl, rfl, SqT.of (s1 _ _ h1), at0, rfl, .inr ⟨_, rfl, _, _, rfl, rfl, a, _, _, _, rfl, rfl, SqT.of (s1 _ _ h1), at1, ?_⟩⟩
    refine ⟨_, rfl, nw, _, _, _, rfl, rfl, SqL.of (s1 _ _ hw), at0, _, rfl, _, rfl, inn, _, rfl, DPut.k (k := Sum.inr x) upd_same (big (by omega)), ?_⟩
    have sA : Same H (upd (upd H inn (.dK kw)) inn (.dK (putK kw (Sum.inr x) (.int (n0 : Int))))) := same_mut s1 hin
    have iA : upd (upd H inn (.dK kw)) inn (.dK (putK kw (Sum.inr x) (.int (n0 : Int)))) inn = some (.dK (putK kw (Sum.inr x) (.int (n0 : Int)))) := upd_same
    clear s1
    generalize upd (upd H inn (.dK kw)) inn (.dK (putK kw (Sum.inr x) (.int (n0 : Int)))) = H2 at sA iA
    refine ⟨_, rfl, nw, _, _, _, rfl, rfl, SqL.of (sA _ _ hw), at0, _, _, rfl, rfl, _, rfl, nw, _, _, 0, rfl, rfl, sA _ _ hw, rfl, ?_⟩
    have b3 : But1 nw H (upd H2 nw (nwL (n0 + 1) n1)) := but_put sA
    have w3' : upd H2 nw (nwL (n0 + 1) n1) nw = some (nwL (n0 + 1) n1) := upd_same
    have i3 : upd H2 nw (nwL (n0 + 1) n1) inn = some (.dK (putK kw (Sum.inr x) (.int (n0 : Int)))) := by
      rw [upd_ne (fun z => by rw [z, sA _ _ hw] at iA; cases iA)]
      exact iA
    dsimp only [List.set]
    rw [show HO.lst [V.int ((n0 : Int) + 1), V.int (n1 : Int)] = nwL (n0 + 1) n1 from rfl]
    generalize upd H2 nw (nwL (n0 + 1) n1) = H3 at b3 w3' i3 ⊢
    have tk3 := But1.tkL hw b3
    have hW3 : WdAt H3 wd xs n0 := (WdAt.but hw b3 ⟨kw, w1, w2, w3⟩)
    have hI3 : WdAt H3 inn (xs ++ [x]) (n0 + 1) := put_wd i3 w2 (by omega) w3
    have hH3 := hH.but hw b3
    refine ⟨_, rfl, a, _, _, _, rfl, rfl, SqT.of (tk3 _ _ h1), at0, rfl, _, rfl, itT rfl ?_⟩
    refine ⟨_, rfl, a, _, _, _, rfl, rfl, SqT.of (tk3 _ _ h1), at2, _, rfl, b, wd, t, xs, n0, rfl, h2.tk tk3, gt.ok, gt.si, gt.ht, Nat.le_trans gt.cn (by decide), hsc.1.i, hW3, fun H4 b4 s4 e4 hS hc4 hg4 => ?_⟩
    have tk4 := tk3.trans (tk_same e4)
    refine ⟨_, rfl, a, _, _, _, rfl, rfl, SqT.of (tk4 _ _ h1), at0, _, rfl, _, rfl, inn, _, rfl, get_of (e4 _ _ i3) put_get, _, rfl, _, rfl, a, _, _, _, rfl, rfl, SqT.of (tk4 _ _ h1), at3, _, rfl, _, rfl, _, rfl, c, inn, hd, nw, p1, xs ++ [x], js, n0 + 1, n1, rfl, h3.tk tk4, hsc.2, hI3.same e4, hH3.but w3' (but_same e4), e4 _ _ w3', by omega, by omega, by omega, fun H5 r5 s5 m0 m1 b5 w5 a1 a2 a3 a4 hS5 hG5 hc5 hh5 => ?_⟩
    have tk5 := But1.tkL (e4 _ _ w3') b5
    refine ⟨sz (by show 4 ≤ 100000; decide), fun r hr1 => ?_⟩
    have s6 := same_new hr1 (.tup [.str "let", .int (n0 : Int), .ref b4, .ref r5])
    refine q _ r (.lett n0 s4 s5) m0 m1 (b3.trans ((but_same e4).trans (b5.trans (but_same s6)))) (s6 _ _ w5) (by omega) (by omega) (by omega) (by omega) ⟨b4, r5, upd_same, hS.tk (tk5.trans (tk_same s6)), hS5.tk (tk_same s6)⟩ ⟨by omega, ⟨hg4, by rw [hc4]; exact gt.cn⟩, hG5⟩ ?_ ?_
    · show 1 + spcnt s5 = 1 + pcnt p1
      rw [hc5]
    · show 1 + spht s5 = 1 + htP p1
      rw [hh5]
  | post j x p1 p2 =>
    obtain ⟨c, d, h1, h2, h3⟩ := hA
    have hpc : pcnt (Pt.post j x p1 p2) = 1 + pcnt p1 + pcnt p2 := rfl
    have hp1 := pc_pos p1
    have hp2 := pc_pos p2
    obtain ⟨kw, w1, w2, w3⟩ := hW
    refine itF rfl ⟨_, rfl, a, _, _, _, rfl, rfl, SqT.of h1, at0, rfl, _, rfl, itF rfl ⟨_, rfl, a, _, _, _, rfl, rfl, SqT.of h1, at0, rfl, _, rfl, itF rfl ?_⟩⟩
    refine ⟨_, rfl, wd, kw, rfl, .inl w1, fun inn hin => ?_⟩
    have s1 := same_new hin (.dK kw)
    refine ⟨_, rfl, _, rfl, a, _, _, _, rfl, rfl, SqT.of (s1 _ _ h1), at0, rfl, .inr ⟨_, rfl, _, _, rfl, rfl, a, _, _, _, rfl, rfl, SqT.of (s1 _ _ h1), at2, ?_⟩⟩
    refine ⟨_, rfl, nw, _, _, _, rfl, rfl, SqL.of (s1 _ _ hw), at0, _, rfl, _, rfl, inn, _, rfl, DPut.k (k := Sum.inr x) upd_same (big (by omega)), ?_⟩
    have sA : Same H (upd (upd H inn (.dK kw)) inn (.dK (putK kw (Sum.inr x) (.int (n0 : Int))))) := same_mut s1 hin
    have iA : upd (upd H inn (.dK kw)) inn (.dK (putK kw (Sum.inr x) (.int (n0 : Int)))) inn = some (.dK (putK kw (Sum.inr x) (.int (n0 : Int)))) := upd_same
    clear s1
    generalize upd (upd H inn (.dK kw)) inn (.dK (putK kw (Sum.inr x) (.int (n0 : Int)))) = H2 at sA iA
    refine ⟨_, rfl, nw, _, _, _, rfl, rfl, SqL.of (sA _ _ hw), at0, _, _, rfl, rfl, _, rfl, nw, _, _, 0, rfl, rfl, sA _ _ hw, rfl, ?_⟩
    have b3 : But1 nw H (upd H2 nw (nwL (n0 + 1) n1)) := but_put sA
    have w3' : upd H2 nw (nwL (n0 + 1) n1) nw = some (nwL (n0 + 1) n1) := upd_same
    have i3 : upd H2 nw (nwL (n0 + 1) n1) inn = some (.dK (putK kw (Sum.inr x) (.int (n0 : Int)))) := by
      rw [upd_ne (fun z => by rw [z, sA _ _ hw] at iA; cases iA)]
      exact iA
    dsimp only [List.set]
    rw [show HO.lst [V.int ((n0 : Int) + 1), V.int (n1 : Int)] = nwL (n0 + 1) n1 from rfl]
    generalize upd H2 nw (nwL (n0 + 1) n1) = H3 at b3 w3' i3 ⊢
    have tk3 := But1.tkL hw b3
    have hW3 : WdAt H3 wd xs n0 := (WdAt.but hw b3 ⟨kw, w1, w2, w3⟩)
    have hI3 : WdAt H3 inn (xs ++ [x]) (n0 + 1) := put_wd i3 w2 (by omega) w3
    have hH3 := hH.but hw b3
    obtain ⟨kh, k1, k2, k3⟩ := hH3
    refine ⟨_, rfl, a, _, _, _, rfl, rfl, SqT.of (tk3 _ _ h1), at0, rfl, _, rfl, itF rfl ?_⟩
    refine ⟨_, rfl, hd, kh, rfl, .inl k1, fun pst hpst => ?_⟩
    have s4 := same_new hpst (.dK kh)
    refine ⟨_, rfl, nw, _, _, _, rfl, rfl, SqL.of (s4 _ _ w3'), at1, _, rfl, _, rfl, a, _, _, _, rfl, rfl, SqT.of (s4 _ _ (tk3 _ _ h1)), at1, pst, _, rfl, DPut.k (k := Sum.inr j) upd_same (big (by omega)), ?_⟩
    have sB : Same H3 (upd (upd H3 pst (.dK kh)) pst (.dK (putK kh (Sum.inr j) (.int (n1 : Int))))) := same_mut s4 hpst
    have iB : upd (upd H3 pst (.dK kh)) pst (.dK (putK kh (Sum.inr j) (.int (n1 : Int)))) pst = some (.dK (putK kh (Sum.inr j) (.int (n1 : Int)))) := upd_same
    clear s4
    generalize upd (upd H3 pst (.dK kh)) pst (.dK (putK kh (Sum.inr j) (.int (n1 : Int)))) = H4 at sB iB
    refine ⟨_, rfl, nw, _, _, _, rfl, rfl, SqL.of (sB _ _ w3'), at1, _, _, rfl, rfl, _, rfl, nw, _, _, 1, rfl, rfl, sB _ _ w3', rfl, ?_⟩
    have b5 : But1 nw H3 (upd H4 nw (nwL (n0 + 1) (n1 + 1))) := but_put sB
    have w5 : upd H4 nw (nwL (n0 + 1) (n1 + 1)) nw = some (nwL (n0 + 1) (n1 + 1)) := upd_same
    have i5 : upd H4 nw (nwL (n0 + 1) (n1 + 1)) pst = some (.dK (putK kh (Sum.inr j) (.int (n1 : Int)))) := by
      rw [upd_ne (fun z => by rw [z, sB _ _ w3'] at iB; cases iB)]
      exact iB
    have iI5 : upd H4 nw (nwL (n0 + 1) (n1 + 1)) inn = some (.dK (putK kw (Sum.inr x) (.int (n0 : Int)))) := by
      rw [upd_ne (fun z => by rw [z, w3'] at i3; cases i3)]
      exact sB _ _ i3
    dsimp only [List.set]
    rw [show HO.lst [V.int ((n0 + 1 : Nat) : Int), V.int ((n1 : Int) + 1)] = nwL (n0 + 1) (n1 + 1) from rfl]
    generalize upd H4 nw (nwL (n0 + 1) (n1 + 1)) = H5 at b5 w5 i5 iI5 ⊢
    have tk5 := But1.tkL w3' b5
    have tk35 := tk3.trans tk5
    have hW5 := hW3.but w3' b5
    have hI5 := hI3.but w3' b5
    have hH5 : HdAt H5 hd js n1 := HdAt.but w3' b5 ⟨kh, k1, k2, k3⟩
    have hP5 : HdAt H5 pst (js ++ [j]) (n1 + 1) := put_hd i5 k2 (by omega) k3
    refine ⟨_, rfl, a, _, _, _, rfl, rfl, SqT.of (tk35 _ _ h1), at3, _, rfl, _, rfl, _, rfl, c, inn, hd, nw, p1, xs ++ [x], js, n0 + 1, n1 + 1, rfl, h2.tk tk35, hsc.1, hI5, hH5.le (by omega), w5, by omega, by omega, by omega, fun H6 r6 s6 m0 m1 b6 w6 a1 a2 a3 a4 hS6 hG6 hc6 hh6 => ?_⟩
    have tk6 := But1.tkL w5 b6
    have tk36 := tk35.trans tk6
    have i6 : H6 pst = some (.dK (putK kh (Sum.inr j) (.int (n1 : Int)))) := b6 _ _ (fun z => by rw [z, w5] at i5; cases i5) i5
    have iI6 : H6 inn = some (.dK (putK kw (Sum.inr x) (.int (n0 : Int)))) := b6 _ _ (fun z => by rw [z, w5] at iI5; cases iI5) iI5
    refine ⟨_, rfl, _, rfl, a, _, _, _, rfl, rfl, SqT.of (tk36 _ _ h1), at1, pst, _, rfl, get_of i6 put_get, _, rfl, _, rfl, inn, _, rfl, get_of iI6 put_get, _, rfl, ?_⟩
    refine ⟨_, rfl, a, _, _, _, rfl, rfl, SqT.of (tk36 _ _ h1), at4, _, rfl, _, rfl, _, rfl, d, wd, pst, nw, p2, xs, js ++ [j], m0, m1, rfl, h3.tk tk36, hsc.2, (hW5.but w5 b6).le (by omega), (hP5.but w5 b6).le (by omega), w6, by omega, by omega, by omega, fun H7 r7 s7 k0 k1' b7 w7 c1 c2 c3 c4 hS7 hG7 hc7 hh7 => ?_⟩
    have tk7 := But1.tkL w6 b7
    refine ⟨sz (by show 5 ≤ 100000; decide), fun r hr1 => ?_⟩
    have s8 := same_new hr1 (.tup [.str "post", .int (n1 : Int), .int (n0 : Int), .ref r6, .ref r7])
    refine q _ r (.post n1 n0 s6 s7) k0 k1' (b3.trans (b5.trans (b6.trans (b7.trans (but_same s8))))) (s8 _ _ w7) (by omega) (by omega) (by omega) (by omega) ⟨r6, r7, upd_same, hS6.tk (tk7.trans (tk_same s8)), hS7.tk (tk_same s8)⟩ ⟨by omega, by omega, hG6, hG7⟩ ?_ ?_
    · show 1 + spcnt s6 + spcnt s7 = 1 + pcnt p1 + pcnt p2
      rw [hc6, hc7]
    · show 1 + max (spht s6) (spht s7) = 1 + max (htP p1) (htP p2)
      rw [hh6, hh7]
theorem no_shP {f : Addr} {fd : FuncData} : FnOk P w K mg base CX0 3 f fd ["part", "words", "hands", "now"] (spShP 0) := by
  have no : ∀ vs H Q E, ¬ spShP 0 vs H Q E := fun vs H Q E h => by
    obtain ⟨a, wd, hd, nw, p, xs, js, n0, n1, _, _, _, _, _, _, h0, _⟩ := h
    have := pc_pos p
    omega
  exact ⟨fun vs H Q E h => absurd h (no vs H Q E), fun A outer s H args us vs Q E _ _ _ _ h => absurd h (no vs H Q E)⟩
theorem all_shP (T : Txt K mg) {f f1 : Addr} {fd d1 : FuncData} (F : Fun K "_law_shape_part" "_law_shape_part" s_law_shape_part f fd) (R_law_shape_part : Ref K mg "_law_shape_part" f fd ["part", "words", "hands", "now"])
    (G_law_shape_term : FnOk P w K mg base CX0 2 f1 d1 ["term", "words"] (spShT 2)) (R_law_shape_term : Ref K mg "_law_shape_term" f1 d1 ["term", "words"]) : ∀ n : Nat, FnOk P w K mg base CX0 (n + 3) f fd ["part", "words", "hands", "now"] (spShP n)
  | 0 => no_shP
  | n + 1 => ok_shP T F (all_shP T F R_law_shape_part G_law_shape_term R_law_shape_term n) R_law_shape_part G_law_shape_term R_law_shape_term
end
end KB

namespace KB
open PySem L2 HT

def hSg : Option Nat → Str
  | none => "home"
  | some k => sgW "p" k
theorem hSg_ok {h : Option Nat} (g : hG h) : PySem.PyData.strOk (hSg h) = true := by
  cases h with
  | none => decide +kernel
  | some k => exact isW_ok (sg_p (g k rfl))
theorem sp_pos (s : SP) : 1 ≤ spcnt s := by
  cases s with
  | give h t => exact Nat.le_refl 1
  | ask f ts h => exact Nat.le_refl 1
  | tell k t p => exact Nat.le_add_right 1 _
  | lett k t p => exact Nat.le_add_right 1 _
  | iff t p q => show 1 ≤ 1 + spcnt p + spcnt q; omega
  | post m k p q => show 1 ≤ 1 + spcnt p + spcnt q; omega
def SVq (H : Hp) (s : SP) (v : V) : Prop := ∃ b, v = .ref b ∧ SPAt H s b
theorem SVq.tk {H H' : Hp} (k : TK H H') {s : SP} {v : V} (h : SVq H s v) : SVq H' s v := let ⟨b, e, g⟩ := h; ⟨b, e, g.tk k⟩
section
variable {P : Program} {w : World} {K : PySem.W.Frag} {mg : Str → Option Value} {base : Heap}
theorem sgn_of {h : Option Nat} (hh : hG h) {H : Hp} {Q : VK} {E : _} (q : Q (.str (hSg h)) H) : spSign [.str "p", hV h] H Q E := by
  cases h with
  | none => exact ⟨"p", _, rfl, by decide +kernel, .inl ⟨rfl, q⟩⟩
  | some k => exact ⟨"p", _, rfl, by decide +kernel, .inr ⟨k, rfl, hh k rfl, q⟩⟩
theorem sgw_of {k : Nat} (hh : k < 676) {H : Hp} {Q : VK} {E : _} (q : Q (.str (sgW "w" k)) H) : spSign [.str "w", .int (k : Int)] H Q E := ⟨"w", _, rfl, by decide +kernel, .inr ⟨k, rfl, hh, q⟩⟩
/-! ### _law_said_part -/
def spSdP (n : Nat) : Sp := fun vs H Q _ => ∃ (a : Addr) (s : SP), vs = [.ref a] ∧ SPAt H s a ∧ spG s ∧ spcnt s ≤ n ∧ ∀ H' p b, Same H H' → PAt H' p b → kP p → pcnt p = spcnt s → htP p = spht s → Q (.ref b) H'
abbrev s_law_said_part : Stmt := top 39
theorem scLsaid_part : FnScope ["part", "some", "one", "term"] ["part"] (defScope s_law_said_part) := ⟨rfl, rfl, rfl, by decide +kernel, rfl, by decide +kernel, by decide +kernel⟩
theorem ok_sdP (T : Txt K mg) (n : Nat) {f f1 f2 : Addr} {fd d1 d2 : FuncData} (F : Fun K "_law_said_part" "_law_said_part" s_law_said_part f fd) (G_law_sign : FnOk P w K mg base CX0 1 f1 d1 ["first", "k"] spSign) (R_law_sign : Ref K mg "_law_sign" f1 d1 ["first", "k"])
    (G_law_said_term : FnOk P w K mg base CX0 3 f2 d2 ["term"] (spSdT 2)) (R_law_said_term : Ref K mg "_law_said_term" f2 d2 ["term"])
    (G_law_said_part : FnOk P w K mg base CX0 (n + 3) f fd ["part"] (spSdP n)) (R_law_said_part : Ref K mg "_law_said_part" f fd ["part"]) : FnOk P w K mg base CX0 (n + 4) f fd ["part"] (spSdP (n + 1)) := by
  refine F.ok scLsaid_part (fun vs H Q E h => ?_) (fun cdv A outer s H vs Q E hr h => ?_)
  · obtain ⟨a, s, rfl, _⟩ := h
    rfl
  obtain ⟨a, sp, rfl, hA, hg, hn, q⟩ := h
  refine ⟨_, (pss_cons (ps_if (pt_cmpR op_eq (pe_ix ix_tup (pv 0) pe_int (fun _ _ => rfl)) pe_str (nomark _)) (pss_one (ps_ret (pe_tup (pa_cons pe_str (pa_cons (pe_call G_law_sign (hr.mono (by omega)) rfl R_law_sign.m R_law_sign.k R_law_sign.b .nil pass0 (pa_cons pe_str (pa_cons (pe_ix ix_tup (pv 0) pe_int (fun _ _ => rfl)) pa_nil))) (pa_cons (pe_call G_law_said_term (hr.mono (by omega)) rfl R_law_said_term.m R_law_said_term.k R_law_said_term.b .nil pass0 (pa_cons (pe_ix ix_tup (pv 0) pe_int (fun _ _ => rfl)) pa_nil)) pa_nil)))))) pss_nil)
    (pss_cons (ps_if (pt_cmpR op_eq (pe_ix ix_tup (pv 0) pe_int (fun _ _ => rfl)) pe_str (nomark _)) (pss_cons (ps_set (i := 1) scLsaid_part.nd rfl (Or.inl rfl) (pe_callTy call_tuple_of (by rfl) T.m_tuple (by decide +kernel) (pa_cons (pe_lc (own := [("one", 2)]) (g := gName 2) (by rfl) scLsaid_part.nd (pi_tup (pe_ix ix_tup (pv 0) pe_int (fun _ _ => rfl))) (blkOk_by (own := [("one", 2)]) (N := ["part", "some", "one", "term"]) (sc := defScope s_law_said_part) (by decide +kernel)) (fun _ _ _ _ _ => (pg_name (i := 2) scLsaid_part.nd rfl (Or.inl rfl))) (fun _ _ _ _ _ => pts_nil) (fun _ _ _ _ _ => (pe_call G_law_said_term (hr.mono (by omega)) rfl R_law_said_term.m R_law_said_term.k R_law_said_term.b .nil pass0 (pa_cons (pv 2) pa_nil)))) pa_nil)))
    (pss_one (ps_ret (pe_tup (pa_cons pe_str (pa_cons (pe_ix ix_tup (pv 0) pe_int (fun _ _ => rfl)) (pa_cons (pv 1) (pa_cons (pe_call G_law_sign (hr.mono (by omega)) rfl R_law_sign.m R_law_sign.k R_law_sign.b .nil pass0 (pa_cons pe_str (pa_cons (pe_ix ix_tup (pv 0) pe_int (fun _ _ => rfl)) pa_nil))) pa_nil)))))))) pss_nil)
    (pss_cons (ps_if (pt_cmpR op_eq (pe_ix ix_tup (pv 0) pe_int (fun _ _ => rfl)) pe_str (nomark _)) (pss_one (ps_ret (pe_op op_catA (pe_tup (pa_cons pe_str (pa_cons (pe_call G_law_said_term (hr.mono (by omega)) rfl R_law_said_term.m R_law_said_term.k R_law_said_term.b .nil pass0 (pa_cons (pe_ix ix_tup (pv 0) pe_int (fun _ _ => rfl)) pa_nil)) pa_nil))) (pe_callTy call_tuple_of (by rfl) T.m_tuple (by decide +kernel) (pa_cons (pe_lc (own := [("one", 2)]) (g := gName 2) (by rfl) scLsaid_part.nd (pi_tup (pe_slice sl_tupA (pv 0) (po_some pe_int) po_none)) (blkOk_by (own := [("one", 2)]) (N := ["part", "some", "one", "term"]) (sc := defScope s_law_said_part) (by decide +kernel)) (fun _ _ _ _ _ => (pg_name (i := 2) scLsaid_part.nd rfl (Or.inl rfl))) (fun _ _ _ _ _ => pts_nil) (fun _ _ _ _ _ => (pe_call G_law_said_part (hr.mono (by omega)) rfl R_law_said_part.m R_law_said_part.k R_law_said_part.b .nil pass0 (pa_cons (pv 2) pa_nil)))) pa_nil))))) pss_nil)
    (pss_cons (ps_if (pt_cmpR op_eq (pe_ix ix_tup (pv 0) pe_int (fun _ _ => rfl)) pe_str (nomark _)) (pss_cons (ps_set (i := 1) scLsaid_part.nd rfl (Or.inl rfl) (pe_callTy call_tuple_of (by rfl) T.m_tuple (by decide +kernel) (pa_cons (pe_lc (own := [("one", 2)]) (g := gName 2) (by rfl) scLsaid_part.nd (pi_tup (pe_slice sl_tupA (pv 0) (po_some pe_int) po_none)) (blkOk_by (own := [("one", 2)]) (N := ["part", "some", "one", "term"]) (sc := defScope s_law_said_part) (by decide +kernel)) (fun _ _ _ _ _ => (pg_name (i := 2) scLsaid_part.nd rfl (Or.inl rfl))) (fun _ _ _ _ _ => pts_nil) (fun _ _ _ _ _ => (pe_call G_law_said_part (hr.mono (by omega)) rfl R_law_said_part.m R_law_said_part.k R_law_said_part.b .nil pass0 (pa_cons (pv 2) pa_nil)))) pa_nil)))
    (pss_one (ps_ret (pe_op op_catA (pe_tup (pa_cons pe_str (pa_cons (pe_call G_law_sign (hr.mono (by omega)) rfl R_law_sign.m R_law_sign.k R_law_sign.b .nil pass0 (pa_cons pe_str (pa_cons (pe_ix ix_tup (pv 0) pe_int (fun _ _ => rfl)) pa_nil))) (pa_cons (pe_call G_law_sign (hr.mono (by omega)) rfl R_law_sign.m R_law_sign.k R_law_sign.b .nil pass0 (pa_cons pe_str (pa_cons (pe_ix ix_tup (pv 0) pe_int (fun _ _ => rfl)) pa_nil))) pa_nil)))) (pv 1))))) pss_nil)
    (pss_cons (ps_set (i := 3) scLsaid_part.nd rfl (Or.inl rfl) (pe_call G_law_said_term (hr.mono (by omega)) rfl R_law_said_term.m R_law_said_term.k R_law_said_term.b .nil pass0 (pa_cons (pe_ix ix_tup (pv 0) pe_int (fun _ _ => rfl)) pa_nil)))
    (pss_one (ps_ret (pe_tup (pa_cons (pe_ix ix_tup (pv 0) pe_int (fun _ _ => rfl)) (pa_cons (pe_call G_law_sign (hr.mono (by omega)) rfl R_law_sign.m R_law_sign.k R_law_sign.b .nil pass0 (pa_cons pe_str (pa_cons (pe_ix ix_tup (pv 0) pe_int (fun _ _ => rfl)) pa_nil))) (pa_cons (pv 3) (pa_cons (pe_call G_law_said_part (hr.mono (by omega)) rfl R_law_said_part.m R_law_said_part.k R_law_said_part.b .nil pass0 (pa_cons (pe_ix ix_tup (pv 0) pe_int (fun _ _ => rfl)) pa_nil)) pa_nil)))))))))))), ?_⟩
  cases sp with
  | give h t =>
    obtain ⟨b, h1, h2⟩ := hA
    refine ⟨_, rfl, a, _, _, _, rfl, rfl, SqT.of h1, at0, rfl, _, rfl, itT rfl ?_⟩
    refine ⟨_, rfl, a, _, _, _, rfl, rfl, SqT.of h1, at1, ?_⟩
    dsimp only [tNil, List.append_nil, List.cons_append, List.nil_append]
    refine sgn_of hg.1 ?_
    refine ⟨_, rfl, a, _, _, _, rfl, rfl, SqT.of h1, at2, b, t, rfl, h2, hg.2.g, fun H1 b1 s1 hT => ⟨sz (by show 3 ≤ 100000; decide), fun r hr1 => ?_⟩⟩
    have s2 := same_new hr1 (.tup [.str "give", .str (hSg h), .ref b1])
    exact q _ (.give (hSg h) (tmS t)) r (s1.trans s2) ⟨b1, upd_same, hT.mono s2⟩ ⟨hSg_ok hg.1, tmS_st hg.2.g hg.2.c⟩ rfl rfl
  | ask g ts h =>
    obtain ⟨qa, vs, h1, h2, h3⟩ := hA
    obtain ⟨g1, g2, g3, g4⟩ := hg
    refine ⟨_, rfl, a, _, _, _, rfl, rfl, SqT.of h1, at0, rfl, _, rfl, itF rfl ⟨_, rfl, a, _, _, _, rfl, rfl, SqT.of h1, at0, rfl, _, rfl, itT rfl ?_⟩⟩
    refine ⟨_, rfl, a, _, _, _, rfl, rfl, SqT.of h1, at2, qa, rfl, ⟨_, SqT.of h2⟩, fun D hD => lc_tup (K := K) (a := qa) (xs := vs) (fun i H' => Same H H' ∧ ∃ acc, H' D = some (.lst acc) ∧ All2 (RefV H') ((ts.take i).map tmS) acc) ⟨same_new hD _, [], upd_same, by rw [List.take_zero]; exact trivial⟩ ?_ ?_ ?_⟩
    · rintro i H' _ ⟨s2, _⟩
      exact SqT.of (s2 _ _ h2)
    · rintro i x H2 hx ⟨s2, acc, k1, k2⟩
      obtain ⟨u, hu, b, rfl, hb⟩ := h3.get hx
      obtain ⟨hj, hj2⟩ := List.getElem?_eq_some_iff.mp hu
      have gu := g4 u (mem_of_get hu)
      have la := k2.len
      rw [List.length_map, List.length_take] at la
      refine ⟨rfl, ?_⟩
      dsimp only [tYes]
      refine iteT ⟨_, rfl, b, u, rfl, hb.tk (tk_same s2), gu.g, fun H3 b3 s3 hT => ?_⟩
      have tk := tk_put (o := .lst (acc ++ [.ref b3])) (s3 _ _ k1)
      refine ⟨acc, s3 _ _ k1, Nat.lt_of_le_of_lt (m := 100) (by omega) (by decide), same_mut (s2.trans s3) hD, _, upd_same, ?_⟩
      rw [List.take_succ_eq_append_getElem hj, hj2, List.map_append]
      exact ((k2.imp fun _ _ z => RefV.tk (tk_same s3) z).imp fun _ _ z => z.tk tk).app ⟨⟨b3, rfl, hT.tk tk⟩, trivial⟩
    · rintro H2 ⟨s2, acc, k1, k2⟩
      rw [h3.len, List.take_length] at k2
      refine ⟨D, acc, rfl, .inl ⟨SqL.of k1, fun p3 hp3 => ?_⟩⟩
      have s3 := same_new hp3 (.tup acc)
      have s23 := s2.trans s3
      refine ⟨_, rfl, a, _, _, _, rfl, rfl, SqT.of (s23 _ _ h1), at1, _, rfl, _, rfl, a, _, _, _, rfl, rfl, SqT.of (s23 _ _ h1), at3, ?_⟩
      dsimp only [tNil, List.append_nil, List.cons_append, List.nil_append]
      refine sgn_of g1 ?_
      refine ⟨sz (by show 4 ≤ 100000; decide), fun r hr1 => ?_⟩
      have s4 := same_new hr1 (.tup [.str "ask", .str g, .ref p3, .str (hSg h)])
      refine q _ (.ask g (ts.map tmS) (hSg h)) r (s23.trans s4) ⟨p3, acc, upd_same, s4 _ _ upd_same, k2.imp fun _ _ z => RefV.tk (tk_same (s3.trans s4)) z⟩ ⟨hSg_ok g1, g2, by rw [List.length_map]; exact g3, fun t ht => ?_⟩ rfl rfl
      obtain ⟨u, hu, rfl⟩ := List.mem_map.mp ht
      exact tmS_st (g4 u hu).g (g4 u hu).c
  | iff t p1 p2 =>
    obtain ⟨b, c, d, h1, h2, h3, h4⟩ := hA
    obtain ⟨g1, g2, g3⟩ := hg
    have hcn : spcnt (SP.iff t p1 p2) = 1 + spcnt p1 + spcnt p2 := rfl
    refine ⟨_, rfl, a, _, _, _, rfl, rfl, SqT.of h1, at0, rfl, _, rfl, itF rfl ⟨_, rfl, a, _, _, _, rfl, rfl, SqT.of h1, at0, rfl, _, rfl, itF rfl ⟨_, rfl, a, _, _, _, rfl, rfl, SqT.of h1, at0, rfl, _, rfl, itT rfl ?_⟩⟩⟩
    refine ⟨_, rfl, a, _, _, _, rfl, rfl, SqT.of h1, at1, b, t, rfl, h2, g1.g, fun H0 b1 s0' hT => ⟨sz (by show 2 ≤ 100000; decide), fun t0 ht0 => ?_⟩⟩
    have s00 := same_new ht0 (.tup [.str "if", .ref b1])
    have g0 : upd H0 t0 (.tup [V.str "if", .ref b1]) t0 = some (.tup [.str "if", .ref b1]) := upd_same
    have hT0 := hT.mono s00
    have s0 := s0'.trans s00
    clear s00 s0' hT
    generalize upd H0 t0 (.tup [V.str "if", .ref b1]) = Hz at g0 hT0 s0
    refine ⟨_, rfl, _, rfl, ?_⟩
    dsimp only [tNoPart]
    refine slA_of (K := K) (lo := some 2) (hi := none) (s0 _ _ h1) fun p9 H1 s1 h5 => ?_
    have h5' : H1 p9 = some (.tup [.ref c, .ref d]) := h5
    have kk : All2 (SVq H1) [p1, p2] [.ref c, .ref d] := ⟨⟨c, rfl, h3.tk (tk_same (s0.trans s1))⟩, ⟨d, rfl, h4.tk (tk_same (s0.trans s1))⟩, trivial⟩
    have gg : ∀ u ∈ [p1, p2], spG u ∧ spcnt u ≤ n := fun u hu => by
      have := sp_pos p1
      have := sp_pos p2
      rcases List.mem_cons.mp hu with z | z
      · rw [z]; exact ⟨g2, by omega⟩
      · rw [List.mem_singleton.mp z]; exact ⟨g3, by omega⟩
    refine ⟨p9, rfl, ⟨_, SqT.of h5'⟩, fun D hD => lc_tup (K := K) (a := p9) (xs := [.ref c, .ref d]) (fun i H' => Same H1 H' ∧ ∃ ps acc, H' D = some (.lst acc) ∧ All2 (PV H') ps acc ∧ (∀ p ∈ ps, kP p) ∧ ps.map pcnt = ([p1, p2].take i).map spcnt ∧ ps.map htP = ([p1, p2].take i).map spht) ⟨same_new hD _, [], [], upd_same, trivial, (fun _ z => nomatch z), rfl, rfl⟩ ?_ ?_ ?_⟩
    · rintro i H' _ ⟨s2, _⟩
      exact SqT.of (s2 _ _ h5')
    · rintro i x H2 hx ⟨s2, ps, acc, k1, k2, k3, k4, k5⟩
      obtain ⟨u, hu, b7, rfl, hb⟩ := kk.get hx
      obtain ⟨hj, hj2⟩ := List.getElem?_eq_some_iff.mp hu
      obtain ⟨gu, gn⟩ := gg u (mem_of_get hu)
      have la := k2.len
      have lb := congrArg List.length k4
      rw [List.length_map, List.length_map, List.length_take] at lb
      have hj3 : i < 2 := hj
      refine ⟨rfl, ?_⟩
      dsimp only [tYes]
      refine iteT ⟨_, rfl, b7, u, rfl, hb.tk (tk_same s2), gu, gn, fun H3 p3 b3 s3 hP hk hc hh => ?_⟩
      have tk := tk_put (o := .lst (acc ++ [.ref b3])) (s3 _ _ k1)
      refine ⟨acc, s3 _ _ k1, Nat.lt_of_le_of_lt (m := 100) (by omega) (by decide), same_mut (s2.trans s3) hD, ps ++ [p3], _, upd_same, ((k2.imp fun _ _ z => PV.tk (tk_same s3) z).imp fun _ _ z => z.tk tk).app ⟨⟨b3, rfl, hP.tk tk⟩, trivial⟩, ?_, ?_, ?_⟩
      · intro p hp
        rcases List.mem_append.mp hp with z | z
        · exact k3 p z
        · rw [List.mem_singleton.mp z]; exact hk
      · rw [List.map_append, k4, List.take_succ_eq_append_getElem hj, hj2, List.map_append]
        show _ ++ [pcnt p3] = _
        rw [hc]
        rfl
      · rw [List.map_append, k5, List.take_succ_eq_append_getElem hj, hj2, List.map_append]
        show _ ++ [htP p3] = _
        rw [hh]
        rfl
    · rintro H2 ⟨s2, ps, acc, k1, k2, k3, k4, k5⟩
      have k4' : ps.map pcnt = [spcnt p1, spcnt p2] := k4
      have k5' : ps.map htP = [spht p1, spht p2] := k5
      have hl2 := congrArg List.length k4'
      rw [List.length_map] at hl2
      obtain ⟨pa, pb, rfl⟩ : ∃ pa pb, ps = [pa, pb] := by
        match ps, hl2 with
        | [pa, pb], _ => exact ⟨pa, pb, rfl⟩
      have la2 := k2.len
      obtain ⟨va, vb, rfl⟩ : ∃ va vb, acc = [va, vb] := by
        match acc, la2 with
        | [va, vb], _ => exact ⟨va, vb, rfl⟩
      obtain ⟨⟨ca, rfl, hca⟩, ⟨da, rfl, hda⟩, _⟩ := k2
      have e1 : pcnt pa = spcnt p1 := (List.cons.inj k4').1
      have e2 : pcnt pb = spcnt p2 := (List.cons.inj (List.cons.inj k4').2).1
      have e3 : htP pa = spht p1 := (List.cons.inj k5').1
      have e4 : htP pb = spht p2 := (List.cons.inj (List.cons.inj k5').2).1
      have m1 := k3 pa List.mem_cons_self
      have m2 := k3 pb (List.mem_cons_of_mem _ List.mem_cons_self)
      refine ⟨D, _, rfl, .inl ⟨SqL.of k1, fun p3 hp3 => ?_⟩⟩
      have s3 := same_new hp3 (.tup [.ref ca, .ref da])
      have s13 := s1.trans (s2.trans s3)
      refine catA_of (s13 _ _ g0) upd_same (by show 2 + 2 ≤ 100000; decide) fun p4 H4 s4 h4' => ?_
      have h8 : H4 p4 = some (.tup [.str "if", .ref b1, .ref ca, .ref da]) := h4'
      refine q H4 (.iff (tmS t) pa pb) p4 (s0.trans (s13.trans s4)) ⟨b1, ca, da, h8, hT0.mono (s13.trans s4), hca.tk (tk_same (s3.trans s4)), hda.tk (tk_same (s3.trans s4))⟩ ⟨tmS_st g1.g g1.c, m1, m2⟩ ?_ ?_
      · show 1 + pcnt pa + pcnt pb = 1 + spcnt p1 + spcnt p2
        rw [e1, e2]
      · show 1 + max (htP pa) (htP pb) = 1 + max (spht p1) (spht p2)
        rw [e3, e4]
  | tell k t p1 =>
    obtain ⟨b, c, h1, h2, h3⟩ := hA
    obtain ⟨gk, g1, g2⟩ := hg
    have hcn : spcnt (SP.tell k t p1) = 1 + spcnt p1 := rfl
    refine ⟨_, rfl, a, _, _, _, rfl, rfl, SqT.of h1, at0, rfl, _, rfl, itF rfl ⟨_, rfl, a, _, _, _, rfl, rfl, SqT.of h1, at0, rfl, _, rfl, itF rfl ⟨_, rfl, a, _, _, _, rfl, rfl, SqT.of h1, at0, rfl, _, rfl, itF rfl ⟨_, rfl, a, _, _, _, rfl, rfl, SqT.of h1, at0, rfl, _, rfl, itF rfl ?_⟩⟩⟩⟩
    refine ⟨_, rfl, a, _, _, _, rfl, rfl, SqT.of h1, at2, b, t, rfl, h2, g1.g, fun H1 b1 s1 hT => ?_⟩
    refine ⟨_, rfl, a, _, _, _, rfl, rfl, SqT.of (s1 _ _ h1), at0, _, rfl, a, _, _, _, rfl, rfl, SqT.of (s1 _ _ h1), at1, ?_⟩
    dsimp only [tNil, List.append_nil, List.cons_append, List.nil_append]
    refine sgw_of gk ?_
    refine ⟨_, rfl, _, rfl, a, _, _, _, rfl, rfl, SqT.of (s1 _ _ h1), at3, c, p1, rfl, h3.tk (tk_same s1), g2, by omega, fun H2 p' b2 s2 hP hk hc hh => ⟨sz (by show 4 ≤ 100000; decide), fun r hr1 => ?_⟩⟩
    have s3 := same_new hr1 (.tup [.str "tell", .str (sgW "w" k), .ref b1, .ref b2])
    refine q _ (.tell (sgW "w" k) (tmS t) p') r (s1.trans (s2.trans s3)) ⟨b1, b2, upd_same, hT.mono (s2.trans s3), hP.tk (tk_same s3)⟩ ⟨sg_w gk, tmS_st g1.g g1.c, hk⟩ ?_ ?_
    · show 1 + pcnt p' = 1 + spcnt p1
      rw [hc]
    · show 1 + htP p' = 1 + spht p1
      rw [hh]
  | lett k t p1 =>
    obtain ⟨b, c, h1, h2, h3⟩ := hA
    obtain ⟨gk, g1, g2⟩ := hg
    have hcn : spcnt (SP.lett k t p1) = 1 + spcnt p1 := rfl
    refine ⟨_, rfl, a, _, _, _, rfl, rfl, SqT.of h1, at0, rfl, _, rfl, itF rfl ⟨_, rfl, a, _, _, _, rfl, rfl, SqT.of h1, at0, rfl, _, rfl, itF rfl ⟨_, rfl, a, _, _, _, rfl, rfl, SqT.of h1, at0, rfl, _, rfl, itF rfl ⟨_, rfl, a, _, _, _, rfl, rfl, SqT.of h1, at0, rfl, _, rfl, itF rfl ?_⟩⟩⟩⟩
    refine ⟨_, rfl, a, _, _, _, rfl, rfl, SqT.of h1, at2, b, t, rfl, h2, g1.g, fun H1 b1 s1 hT => ?_⟩
    refine ⟨_, rfl, a, _, _, _, rfl, rfl, SqT.of (s1 _ _ h1), at0, _, rfl, a, _, _, _, rfl, rfl, SqT.of (s1 _ _ h1), at1, ?_⟩
    dsimp only [tNil, List.append_nil, List.cons_append, List.nil_append]
    refine sgw_of gk ?_
    refine ⟨_, rfl, _, rfl, a, _, _, _, rfl, rfl, SqT.of (s1 _ _ h1), at3, c, p1, rfl, h3.tk (tk_same s1), g2, by omega, fun H2 p' b2 s2 hP hk hc hh => ⟨sz (by show 4 ≤ 100000; decide), fun r hr1 => ?_⟩⟩
    have s3 := same_new hr1 (.tup [.str "let", .str (sgW "w" k), .ref b1, .ref b2])
    refine q _ (.lett (sgW "w" k) (tmS t) p') r (s1.trans (s2.trans s3)) ⟨b1, b2, upd_same, hT.mono (s2.trans s3), hP.tk (tk_same s3)⟩ ⟨sg_w gk, tmS_st g1.g g1.c, hk⟩ ?_ ?_
    · show 1 + pcnt p' = 1 + spcnt p1
      rw [hc]
    · show 1 + htP p' = 1 + spht p1
      rw [hh]
  | post m k p1 p2 =>
    obtain ⟨c, d, h1, h3, h4⟩ := hA
    obtain ⟨gm, gk, g2, g3⟩ := hg
    have hcn : spcnt (SP.post m k p1 p2) = 1 + spcnt p1 + spcnt p2 := rfl
    refine ⟨_, rfl, a, _, _, _, rfl, rfl, SqT.of h1, at0, rfl, _, rfl, itF rfl ⟨_, rfl, a, _, _, _, rfl, rfl, SqT.of h1, at0, rfl, _, rfl, itF rfl ⟨_, rfl, a, _, _, _, rfl, rfl, SqT.of h1, at0, rfl, _, rfl, itF rfl ⟨_, rfl, a, _, _, _, rfl, rfl, SqT.of h1, at0, rfl, _, rfl, itT rfl ?_⟩⟩⟩⟩
    refine ⟨_, rfl, _, rfl, ?_⟩
    dsimp only [tNoPart]
    have s0 : Same H H := Same.refl H
    refine slA_of (K := K) (lo := some 3) (hi := none) h1 fun p9 H1 s1 h5 => ?_
    have h5' : H1 p9 = some (.tup [.ref c, .ref d]) := h5
    have kk : All2 (SVq H1) [p1, p2] [.ref c, .ref d] := ⟨⟨c, rfl, h3.tk (tk_same (s0.trans s1))⟩, ⟨d, rfl, h4.tk (tk_same (s0.trans s1))⟩, trivial⟩
    have gg : ∀ u ∈ [p1, p2], spG u ∧ spcnt u ≤ n := fun u hu => by
      have := sp_pos p1
      have := sp_pos p2
      rcases List.mem_cons.mp hu with z | z
      · rw [z]; exact ⟨g2, by omega⟩
      · rw [List.mem_singleton.mp z]; exact ⟨g3, by omega⟩
    refine ⟨p9, rfl, ⟨_, SqT.of h5'⟩, fun D hD => lc_tup (K := K) (a := p9) (xs := [.ref c, .ref d]) (fun i H' => Same H1 H' ∧ ∃ ps acc, H' D = some (.lst acc) ∧ All2 (PV H') ps acc ∧ (∀ p ∈ ps, kP p) ∧ ps.map pcnt = ([p1, p2].take i).map spcnt ∧ ps.map htP = ([p1, p2].take i).map spht) ⟨same_new hD _, [], [], upd_same, trivial, (fun _ z => nomatch z), rfl, rfl⟩ ?_ ?_ ?_⟩
    · rintro i H' _ ⟨s2, _⟩
      exact SqT.of (s2 _ _ h5')
    · rintro i x H2 hx ⟨s2, ps, acc, k1, k2, k3, k4, k5⟩
      obtain ⟨u, hu, b7, rfl, hb⟩ := kk.get hx
      obtain ⟨hj, hj2⟩ := List.getElem?_eq_some_iff.mp hu
      obtain ⟨gu, gn⟩ := gg u (mem_of_get hu)
      have la := k2.len
      have lb := congrArg List.length k4
      rw [List.length_map, List.length_map, List.length_take] at lb
      have hj3 : i < 2 := hj
      refine ⟨rfl, ?_⟩
      dsimp only [tYes]
      refine iteT ⟨_, rfl, b7, u, rfl, hb.tk (tk_same s2), gu, gn, fun H3 p3 b3 s3 hP hk hc hh => ?_⟩
      have tk := tk_put (o := .lst (acc ++ [.ref b3])) (s3 _ _ k1)
      refine ⟨acc, s3 _ _ k1, Nat.lt_of_le_of_lt (m := 100) (by omega) (by decide), same_mut (s2.trans s3) hD, ps ++ [p3], _, upd_same, ((k2.imp fun _ _ z => PV.tk (tk_same s3) z).imp fun _ _ z => z.tk tk).app ⟨⟨b3, rfl, hP.tk tk⟩, trivial⟩, ?_, ?_, ?_⟩
      · intro p hp
        rcases List.mem_append.mp hp with z | z
        · exact k3 p z
        · rw [List.mem_singleton.mp z]; exact hk
      · rw [List.map_append, k4, List.take_succ_eq_append_getElem hj, hj2, List.map_append]
        show _ ++ [pcnt p3] = _
        rw [hc]
        rfl
      · rw [List.map_append, k5, List.take_succ_eq_append_getElem hj, hj2, List.map_append]
        show _ ++ [htP p3] = _
        rw [hh]
        rfl
    · rintro H2 ⟨s2, ps, acc, k1, k2, k3, k4, k5⟩
      have k4' : ps.map pcnt = [spcnt p1, spcnt p2] := k4
      have k5' : ps.map htP = [spht p1, spht p2] := k5
      have hl2 := congrArg List.length k4'
      rw [List.length_map] at hl2
      obtain ⟨pa, pb, rfl⟩ : ∃ pa pb, ps = [pa, pb] := by
        match ps, hl2 with
        | [pa, pb], _ => exact ⟨pa, pb, rfl⟩
      have la2 := k2.len
      obtain ⟨va, vb, rfl⟩ : ∃ va vb, acc = [va, vb] := by
        match acc, la2 with
        | [va, vb], _ => exact ⟨va, vb, rfl⟩
      obtain ⟨⟨ca, rfl, hca⟩, ⟨da, rfl, hda⟩, _⟩ := k2
      have e1 : pcnt pa = spcnt p1 := (List.cons.inj k4').1
      have e2 : pcnt pb = spcnt p2 := (List.cons.inj (List.cons.inj k4').2).1
      have e3 : htP pa = spht p1 := (List.cons.inj k5').1
      have e4 : htP pb = spht p2 := (List.cons.inj (List.cons.inj k5').2).1
      have m1 := k3 pa List.mem_cons_self
      have m2 := k3 pb (List.mem_cons_of_mem _ List.mem_cons_self)
      refine ⟨D, _, rfl, .inl ⟨SqL.of k1, fun p3 hp3 => ?_⟩⟩
      have s3 := same_new hp3 (.tup [.ref ca, .ref da])
      have s13 := s1.trans (s2.trans s3)
      have x3 : ∀ {H' : Hp} {o : HO}, H2 p3 = none → upd H2 p3 o p3 = some o := fun _ => upd_same
      have gp3 : upd H2 p3 (.tup [.ref ca, .ref da]) p3 = some (.tup [.ref ca, .ref da]) := upd_same
      generalize upd H2 p3 (.tup [.ref ca, .ref da]) = H3 at s3 gp3 s13
      clear x3
      refine ⟨_, rfl, a, _, _, _, rfl, rfl, SqT.of (s13 _ _ h1), at1, ?_⟩
      dsimp only [tNil, List.append_nil, List.cons_append, List.nil_append]
      refine @sgn_of (some m) (fun i e => by cases e; exact gm) _ _ _ ?_
      refine ⟨_, rfl, a, _, _, _, rfl, rfl, SqT.of (s13 _ _ h1), at2, ?_⟩
      dsimp only [tNil, List.append_nil, List.cons_append, List.nil_append]
      refine sgw_of gk ?_
      refine ⟨sz (by show 3 ≤ 100000; decide), fun t0 ht0 => ?_⟩
      have s5 := same_new ht0 (.tup [.str "post", .str (sgW "p" m), .str (sgW "w" k)])
      refine ⟨_, rfl, catA_of upd_same (s5 _ _ gp3) (by show 3 + 2 ≤ 100000; decide) fun p4 H4 s4 h4' => ?_⟩
      have h8 : H4 p4 = some (.tup [.str "post", .str (sgW "p" m), .str (sgW "w" k), .ref ca, .ref da]) := h4'
      have s34 := s3.trans (s5.trans s4)
      refine q H4 (.post (sgW "p" m) (sgW "w" k) pa pb) p4 (s0.trans (s13.trans (s5.trans s4))) ⟨ca, da, h8, hca.tk (tk_same s34), hda.tk (tk_same s34)⟩ ⟨sg_p gm, sg_w gk, m1, m2⟩ ?_ ?_
      · show 1 + pcnt pa + pcnt pb = 1 + spcnt p1 + spcnt p2
        rw [e1, e2]
      · show 1 + max (htP pa) (htP pb) = 1 + max (spht p1) (spht p2)
        rw [e3, e4]
theorem no_sdP {f : Addr} {fd : FuncData} : FnOk P w K mg base CX0 3 f fd ["part"] (spSdP 0) := by
  have no : ∀ vs H Q E, ¬ spSdP 0 vs H Q E := fun vs H Q E h => by
    obtain ⟨a, s, _, _, _, h0, _⟩ := h
    have := sp_pos s
    omega
  exact ⟨fun vs H Q E h => absurd h (no vs H Q E), fun A outer s H args us vs Q E _ _ _ _ h => absurd h (no vs H Q E)⟩
theorem all_sdP (T : Txt K mg) {f f1 f2 : Addr} {fd d1 d2 : FuncData} (F : Fun K "_law_said_part" "_law_said_part" s_law_said_part f fd) (G_law_sign : FnOk P w K mg base CX0 1 f1 d1 ["first", "k"] spSign) (R_law_sign : Ref K mg "_law_sign" f1 d1 ["first", "k"])
    (G_law_said_term : FnOk P w K mg base CX0 3 f2 d2 ["term"] (spSdT 2)) (R_law_said_term : Ref K mg "_law_said_term" f2 d2 ["term"]) (R_law_said_part : Ref K mg "_law_said_part" f fd ["part"]) : ∀ n : Nat, FnOk P w K mg base CX0 (n + 3) f fd ["part"] (spSdP n)
  | 0 => no_sdP
  | n + 1 => ok_sdP T n F G_law_sign R_law_sign G_law_said_term R_law_said_term (all_sdP T F G_law_sign R_law_sign G_law_said_term R_law_said_term R_law_said_part n) R_law_said_part
end
end KB

namespace KB
open PySem L2 HT

structure ShOk (x : Str × Nat × SP) : Prop where
  w : isW x.1 = true
  n4 : x.2.1 ≤ 4
  g : spG x.2.2
  c : spcnt x.2.2 ≤ 104
  h : spht x.2.2 ≤ 26
def ShV (H : Hp) (x : Str × Nat × SP) (v : V) : Prop := ∃ q b, v = .ref q ∧ H q = some (.tup [.str x.1, .int (x.2.1 : Int), .ref b]) ∧ SPAt H x.2.2 b
theorem ShV.tk {H H' : Hp} (k : TK H H') {x : Str × Nat × SP} {v : V} (h : ShV H x v) : ShV H' x v := let ⟨q, b, e, g1, g2⟩ := h; ⟨q, b, e, k _ _ g1, g2.tk k⟩
structure SdE (e : TEr) : Prop where
  w : isW e.1 = true
  k : kP e.2.2
  c : pcnt e.2.2 ≤ 104
  h : htP e.2.2 ≤ 26
section
variable {P : Program} {w : World} {K : PySem.W.Frag} {mg : Str → Option Value} {base : Heap}
/-! ### _law_shape -/
def spShape : Sp := fun vs H Q _ => ∃ (p : Addr) (es : List TEr) (us : List V), vs = [.ref p] ∧ TBkAt H es us p ∧ es.length ≤ 6 ∧ (∀ e ∈ es, LdE e ∧ pcnt e.2.2 ≤ 104) ∧
  ∀ H' r shs us', H r = none → Same H H' → H' r = some (.lst us') → All2 (ShV H') shs us' → shs.length = es.length → (∀ x ∈ shs, ShOk x) → Q (.ref r) H'
abbrev s_law_shape : Stmt := top 24
theorem scLshape : FnScope ["turned", "found", "name", "names", "body", "words", "word"] ["turned"] (defScope s_law_shape) := ⟨rfl, rfl, rfl, by decide +kernel, rfl, by decide +kernel, by decide +kernel⟩
theorem ok_shape (T : Txt K mg) {f f1 : Addr} {fd d1 : FuncData} (F : Fun K "_law_shape" "_law_shape" s_law_shape f fd)
    (G_law_shape_part : FnOk P w K mg base CX0 107 f1 d1 ["part", "words", "hands", "now"] (spShP 104)) (R_law_shape_part : Ref K mg "_law_shape_part" f1 d1 ["part", "words", "hands", "now"]) : FnOk P w K mg base CX0 108 f fd ["turned"] spShape := by
  refine F.ok scLshape (fun vs H Q E h => ?_) (fun cdv A outer s H vs Q E hr h => ?_)
  · obtain ⟨p, es, us, rfl, _⟩ := h
    rfl
  obtain ⟨p, es, us, rfl, hB, hl6, hG, q⟩ := h
  refine ⟨_, (pss_cons (ps_set (i := 1) scLshape.nd rfl (Or.inl rfl) (pe_lst pa_nil))
    (pss_cons (ps_for PassesOwn.never rfl (pi_tup (pv 0)) (pg_tup rfl (pgs_cons (pg_name (i := 2) scLshape.nd rfl (Or.inl rfl)) (pgs_cons (pg_name (i := 3) scLshape.nd rfl (Or.inl rfl)) (pgs_cons (pg_name (i := 4) scLshape.nd rfl (Or.inl rfl)) pgs_nil)))) (pss_cons (ps_set (i := 5) scLshape.nd rfl (Or.inl rfl) pe_dnewK)
    (pss_cons (ps_for PassesOwn.never rfl (pi_tup (pv 3)) (pg_name (i := 6) scLshape.nd rfl (Or.inl rfl)) (pss_one (ps_dput (hu_of hr) (pv 5) (pv 6) (pe_callB call_lenD (by rfl) T.m_len PySem.boot_len (pa_cons (pv 5) pa_nil)) rfl)))
    (pss_one (ps_expr (pe_bm PySem.F.plainAttrs_list PySem.F.slot_list_append PySem.F.type_list_append mt_append (pv 1) (pa_cons (pe_tup (pa_cons (pv 2) (pa_cons (pe_callB call_len_seq (by rfl) T.m_len PySem.boot_len (pa_cons (pv 3) pa_nil)) (pa_cons (pe_call G_law_shape_part (hr.mono (by omega)) rfl R_law_shape_part.m R_law_shape_part.k R_law_shape_part.b .nil pass0 (pa_cons (pv 4) (pa_cons (pv 5) (pa_cons (pe_disp (pps_cons pe_str pe_str pps_nil) (by rfl) (by rfl) (fun z => by cases z) (by decide)) (pa_cons (pe_lst (pa_cons (pe_callB call_lenD (by rfl) T.m_len PySem.boot_len (pa_cons (pv 5) pa_nil)) (pa_cons pe_int pa_nil))) pa_nil))))) pa_nil)))) pa_nil)))))))
    (pss_one (ps_ret (pv 1))))), ?_⟩
  have big : ∀ {k : Nat}, k ≤ 1000 → k < sizeLine := fun h => Nat.lt_of_le_of_lt h (by decide)
  refine ⟨sz (by show 0 ≤ 100000; decide), fun fl hfl => ?_⟩
  have s0 := same_new hfl (.lst [])
  refine ⟨_, rfl, p, rfl, ⟨_, SqT.of (s0 _ _ hB.1)⟩, for_tup (xs := us) (fun i σ H' => ∃ o2 o3 o4 o5 o6 acc shs, σ = [some (.ref p), some (.ref fl), o2, o3, o4, o5, o6] ∧ Same H H' ∧ H' fl = some (.lst acc) ∧ All2 (ShV H') shs acc ∧ shs.length = (es.take i).length ∧ ∀ x ∈ shs, ShOk x) ?_ ?_ ?_ ?_⟩
  · refine ⟨_, _, _, _, _, [], [], rfl, s0, upd_same, trivial, ?_, fun e he => by cases he⟩
    rw [List.take_zero]
    rfl
  · rintro i σ H' _ ⟨o2, o3, o4, o5, o6, acc, shs, rfl, s1, _⟩
    exact SqT.of (s1 _ _ hB.1)
  · rintro i x σ H1 hx ⟨o2, o3, o4, o5, o6, acc, shs, rfl, s1, h1, k1, hl, hok⟩
    obtain ⟨e, he, qa, r, b, rfl, g1, g2, g3⟩ := hB.2.get hx
    obtain ⟨gd, gc⟩ := hG e (mem_of_get he)
    obtain ⟨hj, hj2⟩ := List.getElem?_eq_some_iff.mp he
    refine ⟨qa, _, rfl, SqT.of (s1 _ _ g1), rfl, _, _, rfl, _, _, rfl, _, _, rfl, rfl, ?_⟩
    intro wd hwd
    have sW := same_new hwd (.dK [])
    have gr := s1 _ _ g2
    refine ⟨_, rfl, r, rfl, ⟨_, SqT.of (sW _ _ gr)⟩, for_tup (xs := e.2.1.map V.str) (fun i σ H' => ∃ o kvs, σ = [some (.ref p), some (.ref fl), some (.str e.1), some (.ref r), some (.ref b), some (.ref wd), o] ∧ Same H1 H' ∧ H' wd = some (.dK kvs) ∧ kvs.length ≤ i ∧ ∀ x ∈ e.2.1.take i, ∃ k : Nat, valV kvs (Sum.inr x) = some (.int (k : Int)) ∧ k < 676) ?_ ?_ ?_ ?_⟩
    · refine ⟨_, [], rfl, sW, upd_same, Nat.le_refl _, fun x hx => ?_⟩
      rw [List.take_zero] at hx
      cases hx
    · rintro i σ H' _ ⟨o, kvs, rfl, s2, _⟩
      exact SqT.of (s2 _ _ gr)
    · rintro i x σ H2 hx ⟨o, kvs, rfl, s2, h2, hkl, hkv⟩
      rw [List.getElem?_map] at hx
      obtain ⟨wn, hwn, rfl⟩ : ∃ wn, e.2.1[i]? = some wn ∧ V.str wn = x := by
        cases e5 : e.2.1[i]? with
        | none =>
          rw [e5] at hx
          cases hx
        | some wn =>
          rw [e5] at hx
          exact ⟨wn, rfl, Option.some.inj hx⟩
      obtain ⟨hi, hi2⟩ := List.getElem?_eq_some_iff.mp hwn
      have hn4 := gd.n4
      refine ⟨_, rfl, wd, kvs, rfl, h2, _, rfl, _, rfl, wd, _, rfl, DPut.k (k := Sum.inr wn) h2 (big (by omega)), ?_⟩
      refine ⟨_, _, rfl, same_mut s2 hwd, upd_same, ?_, ?_⟩
      · have := length_putK kvs (Sum.inr wn) (V.int (kvs.length : Int))
        omega
      · intro y hy
        rw [List.take_succ_eq_append_getElem hi, hi2] at hy
        rw [valV_put]
        by_cases c : (Sum.inr y : Key) = Sum.inr wn
        · rw [if_pos c]
          exact ⟨kvs.length, rfl, by omega⟩
        · rw [if_neg c]
          rcases List.mem_append.mp hy with z | z
          · exact hkv y z
          · exact absurd (congrArg Sum.inr (List.mem_singleton.mp z)) c
    rintro σ H2 ⟨o, kvs, rfl, s2, h2, hkl, hkv⟩
    rw [List.length_map] at hkl
    rw [List.length_map, List.take_length] at hkv
    have hn4 := gd.n4
    -- append
    refine ⟨_, rfl, .inl ⟨rfl, _, SqL.of (s2 _ _ h1)⟩, _, rfl, _, rfl, r, _, rfl, .inr (SqT.of (s2 _ _ gr)), _, rfl, _, rfl, ?_⟩
    intro hd hhd
    have sN := same_new hhd (.dK [])
    refine ⟨upd_same, [(Sum.inr "home", .str "home")], rfl, by show 1 ≤ 15; decide, ?_⟩
    rw [show mergeK [] [((Sum.inr "home" : Key), V.str "home")] = [((Sum.inr "home" : Key), V.str "home")] from rfl]
    have s3 : Same H2 (upd (upd H2 hd (.dK [])) hd (.dK [((Sum.inr "home" : Key), V.str "home")])) := same_mut sN hhd
    have w3 : upd (upd H2 hd (.dK [])) hd (.dK [((Sum.inr "home" : Key), V.str "home")]) hd = some (.dK [((Sum.inr "home" : Key), V.str "home")]) := upd_same
    clear sN
    generalize upd (upd H2 hd (.dK [])) hd (.dK [((Sum.inr "home" : Key), V.str "home")]) = H3 at s3 w3
    refine ⟨_, rfl, wd, kvs, rfl, s3 _ _ h2, sz (by show 2 ≤ 100000; decide), fun nw hnw => ?_⟩
    have s4 := same_new hnw (.lst [.int (kvs.length : Int), .int 0])
    have w4 : upd H3 nw (.lst [.int (kvs.length : Int), .int 0]) nw = some (nwL kvs.length 0) := upd_same
    have s13 : Same H1 H3 := s2.trans s3
    have s14 : Same H1 (upd H3 nw (.lst [.int (kvs.length : Int), .int 0])) := s13.trans s4
    have d4 := s4 _ _ (s3 _ _ h2)
    have q4 := s4 _ _ w3
    clear s4 s3 w3 h2
    generalize upd H3 nw (.lst [.int (kvs.length : Int), .int 0]) = H4 at w4 s14 d4 q4
    have hWd : WdAt H4 wd e.2.1 kvs.length := ⟨kvs, d4, Nat.le_refl _, hkv⟩
    have hHd : HdAt H4 hd ["home"] 0 := ⟨_, q4, Nat.le_refl 1, fun j hj => ⟨none, by rw [List.mem_singleton.mp hj]; exact valV_pos rfl, fun k hk => by cases hk⟩⟩
    refine ⟨b, wd, hd, nw, e.2.2, e.2.1, ["home"], kvs.length, 0, rfl, g3.tk (tk_same (s1.trans s14)), gd.sc, hWd, hHd, w4, gc, by omega, by omega, fun H5 r5 s5 m0 m1 b5 w5 a1 a2 a3 a4 hS hG5 hc5 hh5 => ?_⟩
    have s15 : Same H1 H5 := fun x o h => b5 x o (ne_of_none (s13 _ _ h) hnw) (s14 _ _ h)
    refine ⟨sz (by show 3 ≤ 100000; decide), fun t1 ht1 => ?_⟩
    have s6 := same_new ht1 (.tup [.str e.1, .int ((e.2.1.map V.str).length : Int), .ref r5])
    have s16 := s15.trans s6
    have lacc := k1.len
    rw [List.length_take] at hl
    refine ⟨fl, _, _, rfl, rfl, s16 _ _ h1, big (by omega), ?_⟩
    have tk := tk_put (o := .lst (acc ++ [.ref t1])) (s16 _ _ h1)
    refine ⟨_, _, _, _, _, acc ++ [.ref t1], shs ++ [(e.1, e.2.1.length, s5)], rfl, same_mut (s1.trans s16) hfl, upd_same, (k1.imp fun _ _ z => ShV.tk ((tk_same s16).trans tk) z).app ⟨⟨t1, r5, rfl, tk _ _ (by rw [upd_same, List.length_map]), (hS.tk (tk_same s6)).tk tk⟩, trivial⟩, ?_, ?_⟩
    · rw [List.length_append, List.length_singleton, List.length_take]
      omega
    · intro x hx
      rcases List.mem_append.mp hx with z | z
      · exact hok x z
      · rw [List.mem_singleton.mp z]
        exact ⟨gd.w, gd.n4, hG5, by show spcnt s5 ≤ 104; omega, by have := gd.ht; show spht s5 ≤ 26; omega⟩
  · rintro σ H1 ⟨o2, o3, o4, o5, o6, acc, shs, rfl, s1, h1, k1, hl, hok⟩
    rw [hB.2.len, List.take_length] at hl
    exact ⟨_, rfl, q H1 fl shs acc hfl s1 h1 k1 hl hok⟩
/-! ### _law_said_anew -/
def spSaid : Sp := fun vs H Q _ => ∃ (p : Addr) (es : List TEr) (us : List V), vs = [.ref p] ∧ TBkAt H es us p ∧ es.length ≤ 6 ∧ (∀ e ∈ es, LdE e ∧ pcnt e.2.2 ≤ 104) ∧
  ∀ H' r es' us', Same H H' → TBkAt H' es' us' r → es'.length = es.length → (∀ e ∈ es', SdE e) → Q (.ref r) H'
abbrev s_law_said_anew : Stmt := top 40
theorem scLsaid_anew : FnScope ["turned", "found", "name", "many", "body", "k"] ["turned"] (defScope s_law_said_anew) := ⟨rfl, rfl, rfl, by decide +kernel, rfl, by decide +kernel, by decide +kernel⟩
theorem ok_said (T : Txt K mg) {f f1 f2 f3 : Addr} {fd d1 d2 d3 : FuncData} (F : Fun K "_law_said_anew" "_law_said_anew" s_law_said_anew f fd) (G_law_shape : FnOk P w K mg base CX0 108 f1 d1 ["turned"] spShape) (R_law_shape : Ref K mg "_law_shape" f1 d1 ["turned"])
    (G_law_sign : FnOk P w K mg base CX0 1 f2 d2 ["first", "k"] spSign) (R_law_sign : Ref K mg "_law_sign" f2 d2 ["first", "k"])
    (G_law_said_part : FnOk P w K mg base CX0 107 f3 d3 ["part"] (spSdP 104)) (R_law_said_part : Ref K mg "_law_said_part" f3 d3 ["part"]) : FnOk P w K mg base CX0 109 f fd ["turned"] spSaid := by
  refine F.ok scLsaid_anew (fun vs H Q E h => ?_) (fun cdv A outer s H vs Q E hr h => ?_)
  · obtain ⟨p, es, us, rfl, _⟩ := h
    rfl
  obtain ⟨p, es, us, rfl, hB, hl6, hG, q⟩ := h
  refine ⟨_, (pss_cons (ps_set (i := 1) scLsaid_anew.nd rfl (Or.inl rfl) (pe_lst pa_nil))
    (pss_cons (ps_for PassesOwn.never rfl (pi_list (pe_call G_law_shape (hr.mono (by omega)) rfl R_law_shape.m R_law_shape.k R_law_shape.b .nil pass0 (pa_cons (pv 0) pa_nil))) (pg_tup rfl (pgs_cons (pg_name (i := 2) scLsaid_anew.nd rfl (Or.inl rfl)) (pgs_cons (pg_name (i := 3) scLsaid_anew.nd rfl (Or.inl rfl)) (pgs_cons (pg_name (i := 4) scLsaid_anew.nd rfl (Or.inl rfl)) pgs_nil)))) (pss_one (ps_expr (pe_bm PySem.F.plainAttrs_list PySem.F.slot_list_append PySem.F.type_list_append mt_append (pv 1) (pa_cons (pe_tup (pa_cons (pv 2) (pa_cons (pe_callTy call_tuple_of (by rfl) T.m_tuple (by decide +kernel) (pa_cons (pe_lc (own := [("k", 5)]) (g := gName 5) (by rfl) scLsaid_anew.nd (pi_range1 rfl T.m_range (pa_cons (pv 3) pa_nil)) (blkOk_by (own := [("k", 5)]) (N := ["turned", "found", "name", "many", "body", "k"]) (sc := defScope s_law_said_anew) (by decide +kernel)) (fun _ _ _ _ _ => (pg_name (i := 5) scLsaid_anew.nd rfl (Or.inl rfl))) (fun _ _ _ _ _ => pts_nil) (fun _ _ _ _ _ => (pe_call G_law_sign (hr.mono (by omega)) rfl R_law_sign.m R_law_sign.k R_law_sign.b .nil pass0 (pa_cons pe_str (pa_cons (pv 5) pa_nil))))) pa_nil)) (pa_cons (pe_call G_law_said_part (hr.mono (by omega)) rfl R_law_said_part.m R_law_said_part.k R_law_said_part.b .nil pass0 (pa_cons (pv 4) pa_nil)) pa_nil)))) pa_nil)))))
    (pss_one (ps_ret (pe_callTy call_tuple_of (by rfl) T.m_tuple (by decide +kernel) (pa_cons (pv 1) pa_nil)))))), ?_⟩
  have big : ∀ {k : Nat}, k ≤ 1000 → k < sizeLine := fun h => Nat.lt_of_le_of_lt h (by decide)
  refine ⟨sz (by show 0 ≤ 100000; decide), fun fl hfl => ?_⟩
  have s0 := same_new hfl (.lst [])
  refine ⟨_, rfl, p, es, us, rfl, ⟨s0 _ _ hB.1, hB.2.imp fun _ _ z => TErV.tk (tk_same s0) z⟩, hl6, hG, fun Hs lr shs us' hlrn ss hlr ks hls hsh => ?_⟩
  have nlr : lr ≠ fl := fun z => by rw [z, upd_same] at hlrn; cases hlrn
  have hfs : Hs fl = some (.lst []) := ss _ _ upd_same
  have s0s := s0.trans ss
  refine ⟨lr, rfl, ⟨_, SqL.of hlr⟩, for_list (K := K) (a := lr) (xs := us') (fun i σ H' => ∃ o2 o3 o4 acc es', σ = [some (.ref p), some (.ref fl), o2, o3, o4, none] ∧ But1 fl Hs H' ∧ H' fl = some (.lst acc) ∧ All2 (TErV H') es' acc ∧ es'.length = (shs.take i).length ∧ ∀ e ∈ es', SdE e) ?_ ?_ ?_ ?_⟩
  · refine ⟨_, _, _, [], [], rfl, But1.refl _ _, hfs, trivial, ?_, fun e he => by cases he⟩
    rw [List.take_zero]
    rfl
  · rintro i σ H' _ ⟨o2, o3, o4, acc, es', rfl, b1, _⟩
    exact SqL.of (b1 _ _ nlr hlr)
  · rintro i x σ H1 hx ⟨o2, o3, o4, acc, es', rfl, b1, h1, k1, hl, hok⟩
    obtain ⟨sh, hsh1, qa, b, rfl, g1, g3⟩ := ks.get hx
    have go := hsh sh (mem_of_get hsh1)
    obtain ⟨hj, hj2⟩ := List.getElem?_eq_some_iff.mp hsh1
    have tk1 : TK Hs H1 := But1.tkL hfs b1
    have gn := go.n4
    refine ⟨qa, _, rfl, SqT.of (tk1 _ _ g1), rfl, _, _, rfl, _, _, rfl, _, _, rfl, rfl, ?_⟩
    refine ⟨_, rfl, .inl ⟨rfl, _, SqL.of h1⟩, _, rfl, _, rfl, (sh.2.1 : Int), rfl, by omega, by omega, fun D hD => lc_range (lo := 0) (n := (sh.2.1 : Int).toNat) (fun i H' => Same H1 H' ∧ H' D = some (.lst (((List.range i).map (sgW "w")).map V.str))) ⟨same_new hD _, upd_same⟩ ?_ ?_⟩
    · rintro i H' hi ⟨s5, h5⟩
      have e0 : (0 : Int) + (i : Int) = (i : Int) := Int.zero_add _
      refine ⟨rfl, ?_⟩
      dsimp only [tYes]
      refine iteT ?_
      refine ⟨_, rfl, ?_⟩
      have hi6 : i < 676 := by omega
      dsimp only [tNil, List.append_nil, List.cons_append, List.nil_append]
      rw [e0]
      refine sgw_of hi6 ?_
      refine ⟨_, h5, Nat.lt_of_le_of_lt (m := 100) (by rw [List.length_map, List.length_map, List.length_range]; omega) (by decide), same_mut s5 hD, ?_⟩
      rw [upd_same, ← range_push]
    · rintro H' ⟨s5, h5⟩
      rw [Int.toNat_natCast] at h5
      refine ⟨D, _, rfl, .inl ⟨SqL.of h5, fun p3 hp3 => ?_⟩⟩
      have s6 := same_new hp3 (.tup (((List.range sh.2.1).map (sgW "w")).map V.str))
      have s16 := s5.trans s6
      refine ⟨_, rfl, b, sh.2.2, rfl, (g3.tk tk1).tk (tk_same s16), go.g, go.c, fun H7 p' b7 s7 hP hk hc hh => ⟨sz (by show 3 ≤ 100000; decide), fun t1 ht1 => ?_⟩⟩
      have s8 := same_new ht1 (.tup [.str sh.1, .ref p3, .ref b7])
      have s18 := s16.trans (s7.trans s8)
      have lacc := k1.len
      have lks := ks.len
      rw [List.length_take] at hl
      have f3 := (s7.trans s8) _ _ (upd_same (H := H') (a := p3) (o := .tup (((List.range sh.2.1).map (sgW "w")).map V.str)))
      refine ⟨fl, _, _, rfl, rfl, s18 _ _ h1, big (by omega), ?_⟩
      have tk := tk_put (o := .lst (acc ++ [.ref t1])) (s18 _ _ h1)
      refine ⟨_, _, _, acc ++ [.ref t1], es' ++ [(sh.1, (List.range sh.2.1).map (sgW "w"), p')], rfl, b1.trans (but_put s18), upd_same, (k1.imp fun _ _ z => TErV.tk ((tk_same s18).trans tk) z).app ⟨⟨t1, p3, b7, rfl, tk _ _ upd_same, tk _ _ f3, (hP.tk (tk_same s8)).tk tk⟩, trivial⟩, ?_, ?_⟩
      · rw [List.length_append, List.length_singleton, List.length_take]
        omega
      · intro e he
        rcases List.mem_append.mp he with z | z
        · exact hok e z
        · rw [List.mem_singleton.mp z]
          have := go.c
          have := go.h
          exact ⟨go.w, hk, by show pcnt p' ≤ 104; omega, by show htP p' ≤ 26; omega⟩
  · rintro σ H1 ⟨o2, o3, o4, acc, es', rfl, b1, h1, k1, hl, hok⟩
    rw [ks.len, List.take_length] at hl
    have s1 : Same H H1 := fun x o h => b1 x o (ne_of_none h hfl) (s0s _ _ h)
    refine ⟨_, rfl, fl, _, rfl, .inl ⟨SqL.of h1, fun p' hp' => ?_⟩⟩
    have s2 := same_new hp' (.tup acc)
    exact q _ p' es' acc (s1.trans s2) ⟨upd_same, k1.imp fun _ _ z => TErV.tk (tk_same s2) z⟩ (by omega) hok
end
end KB

namespace KB
open PySem L2 HT

def isPost (x : List Int × Pt) : Bool := decide (V.str (hsP x.2) = V.str "post")
def pdEnt (x : List Int × Pt) : PyData := .tuple [.tuple (x.1.map PyData.int), pdP x.2]
theorem dp_ents {K : PySem.W.Frag} {H : Hp} : ∀ {xs : List (List Int × Pt)} {vs : List V}, All2 (EntV PAt H []) xs vs → DpAll K H vs (xs.map pdEnt)
  | [], [], _ => .nil
  | x :: xs, v :: vs, h => by
    obtain ⟨⟨q, r, b, e, h1, h2, h3⟩, h4⟩ := h
    subst e
    exact .cons (.tup (SqT.of h1) (.cons (.tup (SqT.of h2) (dp_ints _)) (.cons (dp_pat h3) .nil))) (dp_ents h4)
  | [], _ :: _, h => h.elim
  | _ :: _, [], h => h.elim
theorem allP_kP : ∀ {p : Pt}, kP p → ∀ x ∈ allP p, kP x.2 ∧ pcnt x.2 ≤ pcnt p ∧ x.1.length < pcnt p := by
  have go : ∀ (m : Nat) (p : Pt), pcnt p ≤ m → kP p → ∀ x ∈ allP p, kP x.2 ∧ pcnt x.2 ≤ pcnt p ∧ x.1.length < pcnt p := by
    intro m
    induction m with
    | zero => intro p h; have := pc_pos p; omega
    | succ m ih =>
      intro p hp hk x hx
      rw [allP_mk] at hx
      rcases List.mem_cons.mp hx with z | z
      · subst z
        exact ⟨hk, Nat.le_refl _, pc_pos p⟩
      · obtain ⟨l, hl, hm⟩ := List.mem_flatten.mp z
        obtain ⟨kid, hkid, rfl⟩ := List.mem_map.mp hl
        obtain ⟨e, he, rfl⟩ := List.mem_map.mp hm
        have h1 := lk_cnt hkid
        obtain ⟨a, b, c⟩ := ih kid.2 (by omega) (lk_kP hk hkid) e he
        exact ⟨a, by show pcnt e.2 ≤ _; omega, by show e.1.length + 1 < _; omega⟩
  intro p hk
  exact go _ p (Nat.le_refl _) hk
theorem depth_pdT : ∀ {p : Pt}, kP p → (pdP p).depth ≤ htP p + 5
  | .give j t, h => depth_tup (m := 5) (by
      intro d hd
      simp only [List.mem_cons, List.not_mem_nil, or_false] at hd
      rcases hd with z | z | z <;> subst z
      · exact dep_str
      · exact dep_str
      · exact Nat.le_trans h.2.dep (by decide))
  | .ask f ts j, h => depth_tup (m := 5) (by
      intro d hd
      simp only [List.mem_cons, List.not_mem_nil, or_false] at hd
      rcases hd with z | z | z | z <;> subst z
      · exact dep_str
      · exact dep_str
      · refine depth_tup (m := 4) fun d hd => ?_
        obtain ⟨t, ht, rfl⟩ := List.mem_map.mp hd
        exact (h.2.2.2 t ht).dep
      · exact dep_str)
  | .tell x t p, h => by
      have ih := depth_pdT h.2.2
      refine Nat.le_trans (depth_tup (m := htP p + 5) ?_) (by show htP p + 5 + 1 ≤ 1 + htP p + 5; omega)
      intro d hd
      simp only [List.mem_cons, List.not_mem_nil, or_false] at hd
      rcases hd with z | z | z | z <;> subst z
      · exact dep_str
      · exact dep_str
      · exact Nat.le_trans h.2.1.dep (by omega)
      · exact ih
  | .lett x t p, h => by
      have ih := depth_pdT h.2.2
      refine Nat.le_trans (depth_tup (m := htP p + 5) ?_) (by show htP p + 5 + 1 ≤ 1 + htP p + 5; omega)
      intro d hd
      simp only [List.mem_cons, List.not_mem_nil, or_false] at hd
      rcases hd with z | z | z | z <;> subst z
      · exact dep_str
      · exact dep_str
      · exact Nat.le_trans h.2.1.dep (by omega)
      · exact ih
  | .iff t p q, h => by
      have ih1 := depth_pdT h.2.1
      have ih2 := depth_pdT h.2.2
      refine Nat.le_trans (depth_tup (m := max (htP p) (htP q) + 5) ?_) (by show max (htP p) (htP q) + 5 + 1 ≤ 1 + max (htP p) (htP q) + 5; omega)
      intro d hd
      simp only [List.mem_cons, List.not_mem_nil, or_false] at hd
      rcases hd with z | z | z | z <;> subst z
      · exact dep_str
      · exact Nat.le_trans h.1.dep (by omega)
      · omega
      · omega
  | .post j x p q, h => by
      have ih1 := depth_pdT h.2.2.1
      have ih2 := depth_pdT h.2.2.2
      refine Nat.le_trans (depth_tup (m := max (htP p) (htP q) + 5) ?_) (by show max (htP p) (htP q) + 5 + 1 ≤ 1 + max (htP p) (htP q) + 5; omega)
      intro d hd
      simp only [List.mem_cons, List.not_mem_nil, or_false] at hd
      rcases hd with z | z | z | z | z <;> subst z
      · exact dep_str
      · exact dep_str
      · exact dep_str
      · omega
      · omega
theorem allP_ht : ∀ {p : Pt} {x : List Int × Pt}, x ∈ allP p → htP x.2 ≤ htP p
  | .give j t, x, h => by rw [List.mem_singleton.mp h]; exact Nat.le_refl _
  | .ask f ts j, x, h => by rw [List.mem_singleton.mp h]; exact Nat.le_refl _
  | .tell y t p, x, h => by
    rcases List.mem_cons.mp h with z | z
    · rw [z]; exact Nat.le_refl _
    · rw [List.append_nil] at z
      obtain ⟨e, he, rfl⟩ := List.mem_map.mp z
      have := allP_ht he
      show htP e.2 ≤ 1 + htP p
      omega
  | .lett y t p, x, h => by
    rcases List.mem_cons.mp h with z | z
    · rw [z]; exact Nat.le_refl _
    · rw [List.append_nil] at z
      obtain ⟨e, he, rfl⟩ := List.mem_map.mp z
      have := allP_ht he
      show htP e.2 ≤ 1 + htP p
      omega
  | .iff t p q, x, h => by
    rcases List.mem_cons.mp h with z | z
    · rw [z]; exact Nat.le_refl _
    · rw [List.append_nil] at z
      rcases List.mem_append.mp z with z | z
      · obtain ⟨e, he, rfl⟩ := List.mem_map.mp z
        have := allP_ht he
        show htP e.2 ≤ 1 + max (htP p) (htP q)
        omega
      · obtain ⟨e, he, rfl⟩ := List.mem_map.mp z
        have := allP_ht he
        show htP e.2 ≤ 1 + max (htP p) (htP q)
        omega
  | .post j y p q, x, h => by
    rcases List.mem_cons.mp h with z | z
    · rw [z]; exact Nat.le_refl _
    · rw [List.append_nil] at z
      rcases List.mem_append.mp z with z | z
      · obtain ⟨e, he, rfl⟩ := List.mem_map.mp z
        have := allP_ht he
        show htP e.2 ≤ 1 + max (htP p) (htP q)
        omega
      · obtain ⟨e, he, rfl⟩ := List.mem_map.mp z
        have := allP_ht he
        show htP e.2 ≤ 1 + max (htP p) (htP q)
        omega
theorem putP_ex {o : Pt} : ∀ {p : Pt} {x : List Int × Pt}, x ∈ allP p → pcnt (putP o p x.1) + pcnt x.2 = pcnt p + pcnt o
  | .give j t, x, h => by rw [List.mem_singleton.mp h]; exact Nat.add_comm _ _
  | .ask f ts j, x, h => by rw [List.mem_singleton.mp h]; exact Nat.add_comm _ _
  | .tell y t p, x, h => by
    rcases List.mem_cons.mp h with z | z
    · rw [z]; exact Nat.add_comm _ _
    · rw [List.append_nil] at z
      obtain ⟨e, he, rfl⟩ := List.mem_map.mp z
      have := putP_ex (o := o) he
      show 1 + pcnt (if (1 : Int) = 1 then putP o p e.1 else p) + pcnt e.2 = 1 + pcnt p + pcnt o
      rw [if_pos rfl]
      omega
  | .lett y t p, x, h => by
    rcases List.mem_cons.mp h with z | z
    · rw [z]; exact Nat.add_comm _ _
    · rw [List.append_nil] at z
      obtain ⟨e, he, rfl⟩ := List.mem_map.mp z
      have := putP_ex (o := o) he
      show 1 + pcnt (if (1 : Int) = 1 then putP o p e.1 else p) + pcnt e.2 = 1 + pcnt p + pcnt o
      rw [if_pos rfl]
      omega
  | .iff t p q, x, h => by
    rcases List.mem_cons.mp h with z | z
    · rw [z]; exact Nat.add_comm _ _
    · rw [List.append_nil] at z
      rcases List.mem_append.mp z with z | z
      · obtain ⟨e, he, rfl⟩ := List.mem_map.mp z
        have := putP_ex (o := o) he
        show 1 + pcnt (if (1 : Int) = 1 then putP o p e.1 else p) + pcnt (if (2 : Int) = 1 then putP o q e.1 else q) + pcnt e.2 = 1 + pcnt p + pcnt q + pcnt o
        rw [if_pos rfl, if_neg (by decide)]
        omega
      · obtain ⟨e, he, rfl⟩ := List.mem_map.mp z
        have := putP_ex (o := o) he
        show 1 + pcnt (if (1 : Int) = 2 then putP o p e.1 else p) + pcnt (if (2 : Int) = 2 then putP o q e.1 else q) + pcnt e.2 = 1 + pcnt p + pcnt q + pcnt o
        rw [if_pos rfl, if_neg (by decide)]
        omega
  | .post j y p q, x, h => by
    rcases List.mem_cons.mp h with z | z
    · rw [z]; exact Nat.add_comm _ _
    · rw [List.append_nil] at z
      rcases List.mem_append.mp z with z | z
      · obtain ⟨e, he, rfl⟩ := List.mem_map.mp z
        have := putP_ex (o := o) he
        show 1 + pcnt (if (0 : Int) = 0 then putP o p e.1 else p) + pcnt (if (1 : Int) = 0 then putP o q e.1 else q) + pcnt e.2 = 1 + pcnt p + pcnt q + pcnt o
        rw [if_pos rfl, if_neg (by decide)]
        omega
      · obtain ⟨e, he, rfl⟩ := List.mem_map.mp z
        have := putP_ex (o := o) he
        show 1 + pcnt (if (0 : Int) = 1 then putP o p e.1 else p) + pcnt (if (1 : Int) = 1 then putP o q e.1 else q) + pcnt e.2 = 1 + pcnt p + pcnt q + pcnt o
        rw [if_pos rfl, if_neg (by decide)]
        omega
theorem shaped_entsH {xs : List (List Int × Pt)} (h : ∀ x ∈ xs, kP x.2 ∧ htP x.2 ≤ 26) : SeqAt.shaped (.list (xs.map pdEnt)) = true := by
  refine shaped_of (layAll fun d hd => ?_) ?_
  · obtain ⟨x, hx, rfl⟩ := List.mem_map.mp hd
    refine lay_cons (layAll fun d hd => ?_) (lay_cons (lay_pdP (h x hx).1) rfl)
    obtain ⟨k, _, rfl⟩ := List.mem_map.mp hd
    rfl
  · have : (PyData.list (xs.map pdEnt)).depth ≤ 36 + 1 := depth_lst fun d hd => by
      obtain ⟨x, hx, rfl⟩ := List.mem_map.mp hd
      refine depth_tup (m := 35) fun d hd => ?_
      rcases List.mem_cons.mp hd with z | z
      · rw [z]
        refine Nat.le_trans (depth_tup (m := 0) fun d hd => ?_) (by decide)
        obtain ⟨k, _, rfl⟩ := List.mem_map.mp hd
        exact Nat.le_refl 0
      · rw [List.mem_singleton.mp z]
        have := depth_pdT (h x hx).1
        have := (h x hx).2
        omega
    omega
theorem eqv_nilP (xs : List (List Int × Pt)) : PyData.eqv (.list (xs.map pdEnt)) (.list []) = xs.isEmpty := by cases xs <;> rfl
def isEnd (x : List Int × Pt) : Bool := inV (.str (hsP x.2)) [.str "give", .str "ask"]
theorem end_or {x : List Int × Pt} (h : isEnd x = true) : (∃ j t, x.2 = .give j t) ∨ ∃ g ts j, x.2 = .ask g ts j := by
  unfold isEnd at h
  cases e : x.2 with
  | give j t => exact .inl ⟨j, t, rfl⟩
  | ask g ts j => exact .inr ⟨g, ts, j, rfl⟩
  | tell y t p => rw [e] at h; exact absurd (show inV (.str "tell") [.str "give", .str "ask"] = true from h) (by decide +kernel)
  | lett y t p => rw [e] at h; exact absurd (show inV (.str "let") [.str "give", .str "ask"] = true from h) (by decide +kernel)
  | iff t p q => rw [e] at h; exact absurd (show inV (.str "if") [.str "give", .str "ask"] = true from h) (by decide +kernel)
  | post j y p q => rw [e] at h; exact absurd (show inV (.str "post") [.str "give", .str "ask"] = true from h) (by decide +kernel)
theorem has_end : ∀ p : Pt, ∃ x ∈ allP p, isEnd x = true
  | .give j t => ⟨([], .give j t), List.mem_cons_self, (by decide +kernel : inV (.str "give") [.str "give", .str "ask"] = true)⟩
  | .ask f ts j => ⟨([], .ask f ts j), List.mem_cons_self, (by decide +kernel : inV (.str "ask") [.str "give", .str "ask"] = true)⟩
  | .tell y t p => by
    obtain ⟨x, h1, h2⟩ := has_end p
    exact ⟨(1 :: x.1, x.2), List.mem_cons_of_mem _ (List.mem_append_left _ (List.mem_map.mpr ⟨x, h1, rfl⟩)), h2⟩
  | .lett y t p => by
    obtain ⟨x, h1, h2⟩ := has_end p
    exact ⟨(1 :: x.1, x.2), List.mem_cons_of_mem _ (List.mem_append_left _ (List.mem_map.mpr ⟨x, h1, rfl⟩)), h2⟩
  | .iff t p q => by
    obtain ⟨x, h1, h2⟩ := has_end p
    exact ⟨(1 :: x.1, x.2), List.mem_cons_of_mem _ (List.mem_append_left _ (List.mem_map.mpr ⟨x, h1, rfl⟩)), h2⟩
  | .post j y p q => by
    obtain ⟨x, h1, h2⟩ := has_end p
    exact ⟨(0 :: x.1, x.2), List.mem_cons_of_mem _ (List.mem_append_left _ (List.mem_map.mpr ⟨x, h1, rfl⟩)), h2⟩
section
variable {P : Program} {w : World} {K : PySem.W.Frag} {mg : Str → Option Value} {base : Heap}
/-! ### _law_bent -/
def spBent : Sp := fun vs H Q _ => ∃ (tp b : Addr) (p : Pt), vs = [.ref tp, .ref b] ∧ Tp H tp ∧ PAt H p b ∧ kP p ∧ pcnt p ≤ 104 ∧ htP p ≤ 26 ∧ ∀ H' p' r, But1 tp H H' → Tp H' tp → PAt H' p' r → pcnt p' ≤ 220 → Q (.ref r) H'
abbrev s_law_bent : Stmt := top 41
theorem scLbent : FnScope ["tape", "body", "some", "one", "place", "part", "hands", "at", "hand"] ["tape", "body"] (defScope s_law_bent) := ⟨rfl, rfl, rfl, by decide +kernel, rfl, by decide +kernel, by decide +kernel⟩
theorem ok_bent (T : Txt K mg) {f f1 f2 f3 f4 : Addr} {fd d1 d2 d3 d4 : FuncData} (F : Fun K "_law_bent" "_law_bent" s_law_bent f fd) (G_law_digit : FnOk P w K mg base CX0 1 f1 d1 ["tape", "many"] spDig) (R_law_digit : Ref K mg "_law_digit" f1 d1 ["tape", "many"])
    (G_law_all : FnOk P w K mg base CX0 221 f2 d2 ["part", "place"] (spLAll 220)) (R_law_all : Ref K mg "_law_all" f2 d2 ["part", "place"])
    (G_law_around : FnOk P w K mg base CX0 105 f3 d3 ["part", "numbers", "hands"] (spLAr 104)) (R_law_around : Ref K mg "_law_around" f3 d3 ["part", "numbers", "hands"])
    (G_law_put : FnOk P w K mg base CX0 105 f4 d4 ["part", "numbers", "other"] (spLPut 104)) (R_law_put : Ref K mg "_law_put" f4 d4 ["part", "numbers", "other"]) : FnOk P w K mg base CX0 222 f fd ["tape", "body"] spBent := by
  refine F.ok scLbent (fun vs H Q E h => ?_) (fun cdv A outer s H vs Q E hr h => ?_)
  · obtain ⟨tp, b, p, rfl, _⟩ := h
    rfl
  obtain ⟨tp, b, p, rfl, hT, hA, hk, hc, hht, q⟩ := h
  refine ⟨_, (pss_cons (ps_setLc (i := 2) (own := [("one", 3)]) (g := gName 3) (tt := tTest (tOp (rIn K false) (tOp (rIxT K) (tOp (rIxT K) (tVar 3) (tC (.int 1))) (tC (.int 0))) (tTup (tCons (tC (.str "give")) (tCons (tC (.str "ask")) tNil))))) (by rfl) scLbent.nd rfl rfl (sw_true rfl rfl rfl (by decide +kernel)) (pi_list (pe_call G_law_all (hr.mono (by omega)) rfl R_law_all.m R_law_all.k R_law_all.b .nil pass0 (pa_cons (pv 1) (pa_cons (pe_tup pa_nil) pa_nil)))) (blkOk_by (own := [("one", 3)]) (N := ["tape", "body", "some", "one", "place", "part", "hands", "at", "hand"]) (sc := defScope s_law_bent) (by decide +kernel)) (fun _ _ _ _ _ => (pg_name (i := 3) scLbent.nd rfl (Or.inl rfl))) (fun _ _ _ _ _ => (pts_one (pt_cmpR op_in_seq (pe_ix ix_tup (pe_ix ix_tup (pv 3) pe_int (fun _ _ => rfl)) pe_int (fun _ _ => rfl)) (pe_tup (pa_cons pe_str (pa_cons pe_str pa_nil))) rfl))) (fun _ _ _ _ _ => (pv 3)))
    (pss_cons (ps_asg (pe_ix ix_list (pv 2) (pe_call G_law_digit (hr.mono (by omega)) rfl R_law_digit.m R_law_digit.k R_law_digit.b .nil pass0 (pa_cons (pv 0) (pa_cons (pe_callB call_len_seq (by rfl) T.m_len PySem.boot_len (pa_cons (pv 2) pa_nil)) pa_nil))) (fun _ _ => rfl)) (pg_tup rfl (pgs_cons (pg_name (i := 4) scLbent.nd rfl (Or.inl rfl)) (pgs_cons (pg_name (i := 5) scLbent.nd rfl (Or.inl rfl)) pgs_nil))))
    (pss_cons (ps_set (i := 6) scLbent.nd rfl (Or.inl rfl) (pe_ix ix_tup (pe_call G_law_around (hr.mono (by omega)) rfl R_law_around.m R_law_around.k R_law_around.b .nil pass0 (pa_cons (pv 1) (pa_cons (pv 4) (pa_cons (pe_lst (pa_cons pe_str pa_nil)) pa_nil)))) pe_int (fun _ _ => rfl)))
    (pss_cons (ps_set (i := 7) scLbent.nd rfl (Or.inl rfl) (pe_ix ix_list (pe_lst (pa_cons pe_int (pa_cons pe_int pa_nil))) (pe_callTy call_int1 (by rfl) T.m_int (by decide +kernel) (pa_cons (pe_cmpR op_eq (pe_ix ix_tup (pv 5) pe_int (fun _ _ => rfl)) pe_str (nomark _)) pa_nil)) (fun _ _ => rfl)))
    (pss_cons (ps_set (i := 8) scLbent.nd rfl (Or.inl rfl) (pe_ix ix_list (pv 6) (pe_call G_law_digit (hr.mono (by omega)) rfl R_law_digit.m R_law_digit.k R_law_digit.b .nil pass0 (pa_cons (pv 0) (pa_cons (pe_callB call_len_seq (by rfl) T.m_len PySem.boot_len (pa_cons (pv 6) pa_nil)) pa_nil))) (fun _ _ => rfl)))
    (pss_one (ps_ret (pe_call G_law_put (hr.mono (by omega)) rfl R_law_put.m R_law_put.k R_law_put.b .nil pass0 (pa_cons (pv 1) (pa_cons (pv 4) (pa_cons (pe_op op_catA (pe_op op_catA (pe_slice sl_tupA (pv 5) po_none (po_some (pv 7))) (pe_tup (pa_cons (pv 8) pa_nil))) (pe_slice sl_tupA (pv 5) (po_some (pe_op op_add (pv 7) pe_int)) po_none)) pa_nil))))))))))), ?_⟩
  have big : ∀ {k : Nat}, k ≤ 1000 → k < sizeLine := fun h => Nat.lt_of_le_of_lt h (by decide)
  refine ⟨_, rfl, sz (by show 0 ≤ 100000; decide), fun tn htn => ?_⟩
  have s2 := same_new htn (.tup [])
  refine ⟨b, tn, p, [], rfl, hA.tk (tk_same s2), by show pcnt p ≤ 220; omega, by omega, upd_same, by show 0 + 219 ≤ 2000; decide, fun al H3 ps hal s3 h3 k3 => ?_⟩
  have s23 := s2.trans s3
  have t3 := hT.same s23
  have hpl : ps.length = pcnt p := k3.len.trans (allP_len _)
  refine ⟨al, rfl, ⟨_, SqL.of h3⟩, fun D hD => lc_list (K := K) (a := al) (xs := ps) (fun j H' => Same H3 H' ∧ ∃ acc, H' D = some (.lst acc) ∧ All2 (EntV PAt H' []) (((allP p).take j).filter isEnd) acc) ⟨same_new hD _, [], upd_same, trivial⟩ ?_ ?_ ?_⟩
  · rintro j H' _ ⟨s4, _⟩
    exact SqL.of (s4 _ _ h3)
  · rintro j x H4 hx ⟨s4, acc, h4, k4⟩
    obtain ⟨m, hm, q2, r2, b2, rfl, g4, g5, g6⟩ := k3.get hx
    obtain ⟨hj, hj2⟩ := List.getElem?_eq_some_iff.mp hm
    have hle := k4.len
    have hf := List.length_filter_le isEnd ((allP p).take j)
    rw [List.length_take] at hf
    have hjl := (List.getElem?_eq_some_iff.mp hx).1
    obtain ⟨r0, hd⟩ := (g6.tk (tk_same s4)).head
    refine ⟨rfl, ?_⟩
    refine ⟨_, rfl, q2, _, _, _, rfl, rfl, SqT.of (s4 _ _ g4), at1, b2, _, _, _, rfl, rfl, SqT.of hd, at0, sz (by show 2 ≤ 100000; decide), fun tq htq => ?_⟩
    have s5 := same_new htq (.tup [.str "give", .str "ask"])
    refine ⟨tq, _, rfl, .inr (SqT.of upd_same), rfl, rfl, _, rfl, ?_⟩
    have s45 := s4.trans s5
    rw [List.take_succ_eq_append_getElem hj, hj2, List.filter_append]
    refine ite2 (fun c => ?_) (fun c => ?_)
    · refine ⟨_, rfl, acc, s5 _ _ h4, big (by omega), same_mut s45 hD, _, upd_same, ?_⟩
      have tk := tk_put (o := .lst (acc ++ [.ref q2])) (s5 _ _ h4)
      rw [List.filter_cons_of_pos (by exact c), List.filter_nil]
      have tk4 := (tk_same s45).trans tk
      exact (k4.imp fun _ _ z => EntV.tkP ((tk_same s5).trans tk) z).app ⟨⟨q2, r2, b2, rfl, tk4 _ _ g4, tk4 _ _ g5, g6.tk tk4⟩, trivial⟩
    · refine ⟨s45, acc, s5 _ _ h4, ?_⟩
      rw [List.filter_cons_of_neg (by exact c), List.filter_nil, List.append_nil]
      exact k4.imp fun _ _ z => EntV.tkP (tk_same s5) z
  rintro H4 ⟨s4, acc, h4, k4⟩
  have k5 : All2 (EntV PAt H4 []) ((allP p).filter isEnd) acc := by
    rw [hpl, ← allP_len, List.take_length] at k4
    exact k4
  clear k4
  have s14 := s23.trans s4
  have t4 : Tp H4 tp := t3.same s4
  have hA4 := hA.tk (tk_same s14)
  have hDt : D ≠ tp := by
    obtain ⟨z, hz⟩ := t3
    exact (ne_of_none hz hD).symm
  have hal2 : acc.length = ((allP p).filter isEnd).length := k5.len
  have hpos : 0 < acc.length := by
    rw [hal2]
    obtain ⟨x, x1, x2⟩ := has_end p
    exact List.length_pos_of_mem (List.mem_filter.mpr ⟨x1, x2⟩)
  have hlen1 : acc.length ≤ 104 := by
    have h9 := List.length_filter_le isEnd (allP p)
    rw [allP_len] at h9
    omega
  refine ⟨_, rfl, _, rfl, _, rfl, D, _, rfl, .inl (SqL.of h4), tp, _, rfl, t4, by omega, by omega, fun r4 H6 r4a r4b b6 t6 => ?_⟩
  have h6 := b6 _ _ hDt h4
  obtain ⟨v, hv⟩ : ∃ v, acc[r4.toNat]? = some v := ⟨_, List.getElem?_eq_getElem (by omega)⟩
  obtain ⟨m, hm, q2, r2, b2, rfl, g4, g5, g6⟩ := k5.get hv
  have hmm := List.mem_filter.mp (mem_of_get hm)
  obtain ⟨mk1, mk2, mk3⟩ := allP_kP hk m hmm.1
  have tk6 := But1.tk t4 b6
  refine ⟨D, _, _, _, rfl, rfl, SqL.of h6, at_of (j := r4.toNat) (by omega) hv, ?_⟩
  refine ⟨q2, _, rfl, SqT.of (tk6 _ _ g4), rfl, _, _, rfl, _, _, rfl, rfl, ?_⟩
  obtain ⟨mks, mu⟩ := m
  have hm103 : mks.length ≤ 103 := by
    have z : mks.length < pcnt p := mk3
    omega
  have g56 : H6 r2 = some (.tup (mks.map V.int)) := tk6 _ _ g5
  have g66 : PAt H6 mu b2 := g6.tk tk6
  have hA6 := hA4.tk tk6
  have hex : ∀ o : Pt, pcnt o = 1 → pcnt (putP o p mks) ≤ 220 := fun o ho => by
    have := putP_ex (o := o) hmm.1
    have e1 : pcnt (putP o p mks) + pcnt mu = pcnt p + pcnt o := this
    omega
  -- hands
  refine ⟨_, rfl, _, rfl, sz (by show 1 ≤ 100000; decide), fun th hth => ?_⟩
  have s7 := same_new hth (.lst [.str "home"])
  refine ⟨b, r2, th, p, mu, mks, ["home"], rfl, hA6.tk (tk_same s7), hk, hmm.1, hm103, s7 _ _ g56, ⟨upd_same, fun y hy => by rw [List.mem_singleton.mp hy]; decide +kernel⟩, by simp, by show 1 + 103 ≤ 200; decide, fun rr H8 bb hl2 hs2 s8 g8 hh2 hne2 hln2 => ?_⟩
  refine ⟨rr, _, _, _, rfl, rfl, SqT.of g8, at1, ?_⟩
  have s68 := s7.trans s8
  have t8 := t6.same s68
  have g68 := g66.tk (tk_same s68)
  refine ⟨sz (by show 2 ≤ 100000; decide), fun tl htl => ?_⟩
  have s9 := same_new htl (.lst [V.int 1, .int 3])
  have s69 := s68.trans s9
  have t9 := t8.same s9
  have hh9 := hh2.mono s9
  have hpos2 : 0 < hs2.length := by
    cases hs2 with
    | nil => exact absurd rfl hne2
    | cons _ _ => exact Nat.succ_pos _
  have n2 : hl2 ≠ tp := wls_tp hh9.1 t9
  have b49 : But1 tp H H6 := (but_same s14).trans b6
  obtain ⟨hd0, hdd⟩ := g68.head
  refine ⟨_, rfl, b2, _, _, _, rfl, rfl, SqT.of (s9 _ _ hdd), at0, rfl, .inr ⟨_, rfl, ?_⟩⟩
  rcases end_or hmm.2 with ⟨j, t, hmu⟩ | ⟨g, ts, j, hmu⟩
  · dsimp only at hmu
    subst hmu
    obtain ⟨bt, gA, gB⟩ := g68.tk (tk_same s9)
    refine ⟨tl, _, _, _, rfl, rfl, SqL.of upd_same, at0, ?_⟩
    refine ⟨_, rfl, _, rfl, _, rfl, hl2, _, rfl, .inl (SqL.of hh9.1), tp, _, rfl, t9, by rw [List.length_map]; omega, by rw [List.length_map]; omega, fun r10 H10 r10a r10b b10 t10 => ?_⟩
    rw [List.length_map] at r10b
    have hh10 := b10 _ _ n2 hh9.1
    obtain ⟨hw, hhw⟩ : ∃ hw, hs2[r10.toNat]? = some hw := ⟨_, List.getElem?_eq_getElem (by omega)⟩
    have hat10 : atI (hs2.map V.str) r10 = some (.str hw) := at_of (j := r10.toNat) (by omega) (by rw [List.getElem?_map, hhw]; rfl)
    have tk10 := But1.tk t9 b10
    refine ⟨hl2, _, _, _, rfl, rfl, SqL.of hh10, hat10, ?_⟩
    refine ⟨_, rfl, _, rfl, _, rfl, ?_⟩
    dsimp only [tNoPart]
    refine ⟨_, rfl, _, rfl, slA_of (K := K) (lo := none) (hi := some 1) (tk10 _ _ gA) fun t1 HA sA hA1 => ?_⟩
    have hA1' : HA t1 = some (.tup [.str "give"]) := hA1
    refine ⟨_, rfl, sz (by show 1 ≤ 100000; decide), fun t2 ht2 => ?_⟩
    have sB := same_new ht2 (.tup [.str hw])
    refine catA_of (sB _ _ hA1') upd_same (by show 1 + 1 ≤ 100000; decide) fun t3' HC sC hC => ?_
    have hC' : HC t3' = some (.tup [.str "give", .str hw]) := hC
    have sAC := sA.trans (sB.trans sC)
    refine ⟨_, rfl, _, rfl, _, _, rfl, rfl, _, rfl, ?_⟩
    dsimp only [tNoPart]
    refine slA_of (K := K) (lo := some 2) (hi := none) (sAC _ _ (tk10 _ _ gA)) fun t4' HD sD hD4 => ?_
    have hD4' : HD t4' = some (.tup [.ref bt]) := hD4
    refine catA_of (sD _ _ hC') hD4' (by show 2 + 1 ≤ 100000; decide) fun ob HE sE hE => ?_
    have hE' : HE ob = some (.tup [.str "give", .str hw, .ref bt]) := hE
    have sAE := sAC.trans (sD.trans sE)
    have tkE := tk10.trans (tk_same sAE)
    refine ⟨b, r2, ob, p, .give hw t, mks, rfl, (hA6.tk (tk_same s69)).tk tkE, ⟨bt, hE', gB.tk tkE⟩, tkE _ _ (s69 _ _ g56), hm103, fun r HF sF hP => ?_⟩
    exact q HF _ r (b49.trans ((but_same s69).trans (b10.trans (but_same (sAE.trans sF))))) (t10.same (sAE.trans sF)) hP (hex _ rfl)
  · dsimp only at hmu
    subst hmu
    obtain ⟨bt, ws, gA, gB, gC⟩ := g68.tk (tk_same s9)
    refine ⟨tl, _, _, _, rfl, rfl, SqL.of upd_same, at1, ?_⟩
    refine ⟨_, rfl, _, rfl, _, rfl, hl2, _, rfl, .inl (SqL.of hh9.1), tp, _, rfl, t9, by rw [List.length_map]; omega, by rw [List.length_map]; omega, fun r10 H10 r10a r10b b10 t10 => ?_⟩
    rw [List.length_map] at r10b
    have hh10 := b10 _ _ n2 hh9.1
    obtain ⟨hw, hhw⟩ : ∃ hw, hs2[r10.toNat]? = some hw := ⟨_, List.getElem?_eq_getElem (by omega)⟩
    have hat10 : atI (hs2.map V.str) r10 = some (.str hw) := at_of (j := r10.toNat) (by omega) (by rw [List.getElem?_map, hhw]; rfl)
    have tk10 := But1.tk t9 b10
    refine ⟨hl2, _, _, _, rfl, rfl, SqL.of hh10, hat10, ?_⟩
    refine ⟨_, rfl, _, rfl, _, rfl, ?_⟩
    dsimp only [tNoPart]
    refine ⟨_, rfl, _, rfl, slA_of (K := K) (lo := none) (hi := some 3) (tk10 _ _ gA) fun t1 HA sA hA1 => ?_⟩
    have hA1' : HA t1 = some (.tup [.str "ask", .str g, .ref bt]) := hA1
    refine ⟨_, rfl, sz (by show 1 ≤ 100000; decide), fun t2 ht2 => ?_⟩
    have sB := same_new ht2 (.tup [.str hw])
    refine catA_of (sB _ _ hA1') upd_same (by show 3 + 1 ≤ 100000; decide) fun t3' HC sC hC => ?_
    have hC' : HC t3' = some (.tup [.str "ask", .str g, .ref bt, .str hw]) := hC
    have sAC := sA.trans (sB.trans sC)
    refine ⟨_, rfl, _, rfl, _, _, rfl, rfl, _, rfl, ?_⟩
    dsimp only [tNoPart]
    refine slA_of (K := K) (lo := some 4) (hi := none) (sAC _ _ (tk10 _ _ gA)) fun t4' HD sD hD4 => ?_
    have hD4' : HD t4' = some (.tup []) := hD4
    refine catA_of (sD _ _ hC') hD4' (by show 4 + 0 ≤ 100000; decide) fun ob HE sE hE => ?_
    have hE' : HE ob = some (.tup [.str "ask", .str g, .ref bt, .str hw]) := hE
    have sAE := sAC.trans (sD.trans sE)
    have tkE := tk10.trans (tk_same sAE)
    refine ⟨b, r2, ob, p, .ask g ts hw, mks, rfl, (hA6.tk (tk_same s69)).tk tkE, ⟨bt, ws, hE', tkE _ _ gB, gC.imp fun _ _ z => RefV.tk tkE z⟩, tkE _ _ (s69 _ _ g56), hm103, fun r HF sF hP => ?_⟩
    exact q HF _ r (b49.trans ((but_same s69).trans (b10.trans (but_same (sAE.trans sF))))) (t10.same (sAE.trans sF)) hP (hex _ rfl)
/-! ### _law_ahead -/
abbrev s_law_ahead : Stmt := top 42
theorem scLahead : FnScope ["tape", "body", "some", "one", "place", "part", "first"] ["tape", "body"] (defScope s_law_ahead) := ⟨rfl, rfl, rfl, by decide +kernel, rfl, by decide +kernel, by decide +kernel⟩
theorem ok_ahead (T : Txt K mg) {f f1 f2 f4 : Addr} {fd d1 d2 d4 : FuncData} (F : Fun K "_law_ahead" "_law_ahead" s_law_ahead f fd) (G_law_digit : FnOk P w K mg base CX0 1 f1 d1 ["tape", "many"] spDig) (R_law_digit : Ref K mg "_law_digit" f1 d1 ["tape", "many"])
    (G_law_all : FnOk P w K mg base CX0 221 f2 d2 ["part", "place"] (spLAll 220)) (R_law_all : Ref K mg "_law_all" f2 d2 ["part", "place"])
    (G_law_put : FnOk P w K mg base CX0 105 f4 d4 ["part", "numbers", "other"] (spLPut 104)) (R_law_put : Ref K mg "_law_put" f4 d4 ["part", "numbers", "other"]) : FnOk P w K mg base CX0 222 f fd ["tape", "body"] spBent := by
  refine F.ok scLahead (fun vs H Q E h => ?_) (fun cdv A outer s H vs Q E hr h => ?_)
  · obtain ⟨tp, b, p, rfl, _⟩ := h
    rfl
  obtain ⟨tp, b, p, rfl, hT, hA, hk, hc, hht, q⟩ := h
  refine ⟨_, (pss_cons (ps_setLc (i := 2) (own := [("one", 3)]) (g := gName 3) (tt := tTest (tOp rEq (tOp (rIxT K) (tOp (rIxT K) (tVar 3) (tC (.int 1))) (tC (.int 0))) (tC (.str "post")))) (by rfl) scLahead.nd rfl rfl (sw_true rfl rfl rfl (by decide +kernel)) (pi_list (pe_call G_law_all (hr.mono (by omega)) rfl R_law_all.m R_law_all.k R_law_all.b .nil pass0 (pa_cons (pv 1) (pa_cons (pe_tup pa_nil) pa_nil)))) (blkOk_by (own := [("one", 3)]) (N := ["tape", "body", "some", "one", "place", "part", "first"]) (sc := defScope s_law_ahead) (by decide +kernel)) (fun _ _ _ _ _ => (pg_name (i := 3) scLahead.nd rfl (Or.inl rfl))) (fun _ _ _ _ _ => (pts_one (pt_cmpR op_eq (pe_ix ix_tup (pe_ix ix_tup (pv 3) pe_int (fun _ _ => rfl)) pe_int (fun _ _ => rfl)) pe_str (nomark _)))) (fun _ _ _ _ _ => (pv 3)))
    (pss_cons (ps_if (pt_cmpR (op_eqD hr.units) (pv 2) (pe_lst pa_nil) (nomark _)) (pss_one (ps_ret (pv 1))) pss_nil)
    (pss_cons (ps_asg (pe_ix ix_list (pv 2) (pe_call G_law_digit (hr.mono (by omega)) rfl R_law_digit.m R_law_digit.k R_law_digit.b .nil pass0 (pa_cons (pv 0) (pa_cons (pe_callB call_len_seq (by rfl) T.m_len PySem.boot_len (pa_cons (pv 2) pa_nil)) pa_nil))) (fun _ _ => rfl)) (pg_tup rfl (pgs_cons (pg_name (i := 4) scLahead.nd rfl (Or.inl rfl)) (pgs_cons (pg_name (i := 5) scLahead.nd rfl (Or.inl rfl)) pgs_nil))))
    (pss_cons (ps_set (i := 2) scLahead.nd rfl (Or.inl rfl) (pe_lst (pa_cons (pe_tup (pa_cons pe_str (pa_cons pe_str (pa_cons (pe_tup (pa_cons pe_str (pa_cons pe_int pa_nil))) (pa_cons (pe_ix ix_tup (pv 5) pe_int (fun _ _ => rfl)) pa_nil))))) (pa_cons (pe_tup (pa_cons pe_str (pa_cons (pe_tup (pa_cons pe_str (pa_cons pe_int pa_nil))) (pa_cons (pe_ix ix_tup (pv 5) pe_int (fun _ _ => rfl)) (pa_cons (pe_ix ix_tup (pv 5) pe_int (fun _ _ => rfl)) pa_nil))))) pa_nil))))
    (pss_cons (ps_set (i := 6) scLahead.nd rfl (Or.inl rfl) (pe_ix ix_list (pv 2) (pe_call G_law_digit (hr.mono (by omega)) rfl R_law_digit.m R_law_digit.k R_law_digit.b .nil pass0 (pa_cons (pv 0) (pa_cons pe_int pa_nil))) (fun _ _ => rfl)))
    (pss_one (ps_ret (pe_call G_law_put (hr.mono (by omega)) rfl R_law_put.m R_law_put.k R_law_put.b .nil pass0 (pa_cons (pv 1) (pa_cons (pv 4) (pa_cons (pe_op op_catA (pe_slice sl_tupA (pv 5) po_none (po_some pe_int)) (pe_tup (pa_cons (pv 6) pa_nil))) pa_nil))))))))))), ?_⟩
  have big : ∀ {k : Nat}, k ≤ 1000 → k < sizeLine := fun h => Nat.lt_of_le_of_lt h (by decide)
  refine ⟨_, rfl, sz (by show 0 ≤ 100000; decide), fun tn htn => ?_⟩
  have s2 := same_new htn (.tup [])
  refine ⟨b, tn, p, [], rfl, hA.tk (tk_same s2), by show pcnt p ≤ 220; omega, by omega, upd_same, by show 0 + 219 ≤ 2000; decide, fun al H3 ps hal s3 h3 k3 => ?_⟩
  have s23 := s2.trans s3
  have t3 := hT.same s23
  have hpl : ps.length = pcnt p := k3.len.trans (allP_len _)
  refine ⟨al, rfl, ⟨_, SqL.of h3⟩, fun D hD => lc_list (K := K) (a := al) (xs := ps) (fun j H' => Same H3 H' ∧ ∃ acc, H' D = some (.lst acc) ∧ All2 (EntV PAt H' []) (((allP p).take j).filter isPost) acc) ⟨same_new hD _, [], upd_same, trivial⟩ ?_ ?_ ?_⟩
  · rintro j H' _ ⟨s4, _⟩
    exact SqL.of (s4 _ _ h3)
  · rintro j x H4 hx ⟨s4, acc, h4, k4⟩
    obtain ⟨m, hm, q2, r2, b2, rfl, g4, g5, g6⟩ := k3.get hx
    obtain ⟨hj, hj2⟩ := List.getElem?_eq_some_iff.mp hm
    have hle := k4.len
    have hf := List.length_filter_le isPost ((allP p).take j)
    rw [List.length_take] at hf
    have hjl := (List.getElem?_eq_some_iff.mp hx).1
    obtain ⟨r0, hd⟩ := (g6.tk (tk_same s4)).head
    refine ⟨rfl, ?_⟩
    refine ⟨_, rfl, q2, _, _, _, rfl, rfl, SqT.of (s4 _ _ g4), at1, b2, _, _, _, rfl, rfl, SqT.of hd, at0, rfl, _, rfl, ?_⟩
    rw [List.take_succ_eq_append_getElem hj, hj2, List.filter_append]
    refine ite2 (fun c => ?_) (fun c => ?_)
    · refine ⟨_, rfl, acc, h4, big (by omega), same_mut s4 hD, _, upd_same, ?_⟩
      have tk := tk_put (o := .lst (acc ++ [.ref q2])) h4
      rw [List.filter_cons_of_pos (by exact c), List.filter_nil]
      have tk4 := (tk_same s4).trans tk
      exact (k4.imp fun _ _ z => EntV.tkP tk z).app ⟨⟨q2, r2, b2, rfl, tk4 _ _ g4, tk4 _ _ g5, g6.tk tk4⟩, trivial⟩
    · refine ⟨s4, acc, h4, ?_⟩
      rw [List.filter_cons_of_neg (by exact c), List.filter_nil, List.append_nil]
      exact k4
  rintro H4 ⟨s4, acc, h4, k4⟩
  have k5 : All2 (EntV PAt H4 []) ((allP p).filter isPost) acc := by
    rw [hpl, ← allP_len, List.take_length] at k4
    exact k4
  clear k4
  have s14 := s23.trans s4
  have t4 : Tp H4 tp := t3.same s4
  have hA4 := hA.tk (tk_same s14)
  have hDt : D ≠ tp := by
    obtain ⟨z, hz⟩ := t3
    exact (ne_of_none hz hD).symm
  refine ⟨_, rfl, sz (by show 0 ≤ 100000; decide), fun t2 ht2 => ?_⟩
  have s5 := same_new ht2 (.lst [])
  refine ⟨.list (((allP p).filter isPost).map pdEnt), .list [], .lst (SqL.of (s5 _ _ h4)) (dp_ents (k5.imp fun _ _ z => EntV.tkP (tk_same s5) z)), .lst (SqL.of upd_same) .nil, shaped_entsH (fun x hx => ⟨(allP_kP hk x (List.mem_filter.mp hx).1).1, by have := allP_ht (List.mem_filter.mp hx).1; omega⟩), rfl, _, rfl, ?_⟩
  rw [eqv_nilP]
  have hal2 : acc.length = ((allP p).filter isPost).length := k5.len
  cases hem : ((allP p).filter isPost).isEmpty with
  | true => exact itT rfl ⟨_, rfl, q _ p b (but_same (s14.trans s5)) (t4.same s5) (hA4.tk (tk_same s5)) (by omega)⟩
  | false =>
    have hpos : 0 < acc.length := by
      rw [hal2]
      cases hq : (allP p).filter isPost with
      | nil => rw [hq] at hem; cases hem
      | cons _ _ => exact Nat.succ_pos _
    have hlen1 : acc.length ≤ 104 := by
      have h9 := List.length_filter_le isPost (allP p)
      rw [allP_len] at h9
      omega
    refine itF rfl ?_
    refine ⟨_, rfl, _, rfl, _, rfl, D, _, rfl, .inl (SqL.of (s5 _ _ h4)), tp, _, rfl, t4.same s5, by omega, by omega, fun r4 H6 r4a r4b b6' t6 => ?_⟩
    have b6 : But1 tp H4 H6 := (but_same s5).trans b6'
    have h6 := b6 _ _ hDt h4
    obtain ⟨v, hv⟩ : ∃ v, acc[r4.toNat]? = some v := ⟨_, List.getElem?_eq_getElem (by omega)⟩
    obtain ⟨m, hm, q2, r2, b2, rfl, g4, g5, g6⟩ := k5.get hv
    have hmm := List.mem_filter.mp (mem_of_get hm)
    obtain ⟨mk1, mk2, mk3⟩ := allP_kP hk m hmm.1
    have tk6 := But1.tk t4 b6
    refine ⟨D, _, _, _, rfl, rfl, SqL.of h6, at_of (j := r4.toNat) (by omega) hv, ?_⟩
    refine ⟨q2, _, rfl, SqT.of (tk6 _ _ g4), rfl, _, _, rfl, _, _, rfl, rfl, ?_⟩
    obtain ⟨j, xw, pT, pU, hpost⟩ := hsP_post (V.str.inj (of_decide_eq_true hmm.2))
    obtain ⟨mks, mu⟩ := m
    dsimp only at hpost
    subst hpost
    have hm103 : mks.length ≤ 103 := by
      have z : mks.length < pcnt p := mk3
      omega
    have g56 : H6 r2 = some (.tup (mks.map V.int)) := tk6 _ _ g5
    obtain ⟨ca, da, gA, gB, gC⟩ := g6.tk tk6
    have hA6 := hA4.tk tk6
    have hpp : pcnt (Pt.post j xw pT pU) = 1 + pcnt pT + pcnt pU := rfl
    have hppc : pcnt (Pt.post j xw pT pU) ≤ pcnt p := mk2
    have hex : ∀ o : Pt, pcnt o ≤ 1 + 2 * pcnt pU → pcnt (putP (.post j xw pT o) p mks) ≤ 220 := fun o ho => by
      have := putP_ex (o := .post j xw pT o) hmm.1
      have e1 : pcnt (putP (.post j xw pT o) p mks) + pcnt (Pt.post j xw pT pU) = pcnt p + (1 + pcnt pT + pcnt o) := this
      omega
    -- some
    refine ⟨sz (by show 2 ≤ 100000; decide), fun x1 hx1 => ?_⟩
    have sa := same_new hx1 (.tup [.str "number", .int 0])
    refine ⟨_, rfl, b2, _, _, _, rfl, rfl, SqT.of (sa _ _ gA), at4, sz (by show 4 ≤ 100000; decide), fun x2 hx2 => ?_⟩
    have sb := same_new hx2 (.tup [.str "let", .str "uv", .ref x1, .ref da])
    have lx1 := sb _ _ (upd_same (H := H6) (a := x1) (o := .tup [.str "number", .int 0]))
    have lx2 : upd (upd H6 x1 (.tup [.str "number", .int 0])) x2 (.tup [.str "let", .str "uv", .ref x1, .ref da]) x2 = some (.tup [.str "let", .str "uv", .ref x1, .ref da]) := upd_same
    have sab := sa.trans sb
    generalize upd (upd H6 x1 (.tup [.str "number", .int 0])) x2 (.tup [.str "let", .str "uv", .ref x1, .ref da]) = Hb at lx1 lx2 sab
    refine ⟨sz (by show 2 ≤ 100000; decide), fun x3 hx3 => ?_⟩
    have sc := same_new hx3 (.tup [.str "number", .int 1])
    have sac := sab.trans sc
    refine ⟨_, rfl, b2, _, _, _, rfl, rfl, SqT.of (sac _ _ gA), at4, _, rfl, b2, _, _, _, rfl, rfl, SqT.of (sac _ _ gA), at4, sz (by show 4 ≤ 100000; decide), fun x4 hx4 => ?_⟩
    have sd := same_new hx4 (.tup [.str "if", .ref x3, .ref da, .ref da])
    have lx3 := sd _ _ (upd_same (H := Hb) (a := x3) (o := .tup [.str "number", .int 1]))
    have lx4 : upd (upd Hb x3 (.tup [.str "number", .int 1])) x4 (.tup [.str "if", .ref x3, .ref da, .ref da]) x4 = some (.tup [.str "if", .ref x3, .ref da, .ref da]) := upd_same
    have scd := sc.trans sd
    generalize upd (upd Hb x3 (.tup [.str "number", .int 1])) x4 (.tup [.str "if", .ref x3, .ref da, .ref da]) = Hd at lx3 lx4 scd
    refine ⟨sz (by show 2 ≤ 100000; decide), fun x5 hx5 => ?_⟩
    have se := same_new hx5 (.lst [.ref x2, .ref x4])
    have lx5 : upd Hd x5 (.lst [.ref x2, .ref x4]) x5 = some (.lst [.ref x2, .ref x4]) := upd_same
    have s6e := sab.trans (scd.trans se)
    have ly1 := (scd.trans se) _ _ lx1
    have ly2 := (scd.trans se) _ _ lx2
    have ly3 := se _ _ lx3
    have ly4 := se _ _ lx4
    generalize upd Hd x5 (.lst [.ref x2, .ref x4]) = He at lx5 s6e ly1 ly2 ly3 ly4
    have te := t6.same s6e
    refine ⟨_, rfl, _, rfl, tp, 2, rfl, te, by decide, by decide, fun r9 H9 r9a r9b b9 t9 => ?_⟩
    have n5 : x5 ≠ tp := by
      obtain ⟨z, hz⟩ := te
      intro y
      rw [y, hz] at lx5
      have h9 := HO.lst.inj (Option.some.inj lx5)
      cases h9
    have tk9 := But1.tk te b9
    have gCe := (gC.tk (tk_same s6e)).tk tk9
    have hfirst : ∃ (fb : Addr) (fp : Pt), atI [V.ref x2, .ref x4] r9 = some (.ref fb) ∧ PAt H9 fp fb ∧ pcnt fp ≤ 1 + 2 * pcnt pU := by
      obtain ⟨v, hv, hm⟩ := at_some (xs := [V.ref x2, .ref x4]) r9a r9b
      have a1 : At H9 (mkL (.num 0) []) x1 := at_mkL (vs := []) ⟨rfl, tk9 _ _ ly1⟩ trivial
      have a3 : At H9 (mkL (.num 1) []) x3 := at_mkL (vs := []) ⟨rfl, tk9 _ _ ly3⟩ trivial
      simp only [List.mem_cons, List.not_mem_nil, or_false] at hm
      have hpu := pc_pos pU
      rcases hm with z | z <;> subst z
      · exact ⟨x2, .lett "uv" (mkL (.num 0) []) pU, hv, ⟨x1, da, tk9 _ _ ly2, a1, gCe⟩, by show 1 + pcnt pU ≤ _; omega⟩
      · exact ⟨x4, .iff (mkL (.num 1) []) pU pU, hv, ⟨x3, da, da, tk9 _ _ ly4, a3, gCe, gCe⟩, by show 1 + pcnt pU + pcnt pU ≤ _; omega⟩
    obtain ⟨fb, fp, hat, hfp, hfc⟩ := hfirst
    refine ⟨x5, _, _, _, rfl, rfl, SqL.of (b9 _ _ n5 lx5), hat, ?_⟩
    have tkA := (tk_same s6e).trans tk9
    refine ⟨_, rfl, _, rfl, _, rfl, _, rfl, ?_⟩
    dsimp only [tNoPart]
    refine slA_of (K := K) (lo := none) (hi := some 4) (tkA _ _ gA) fun t1 HA sA hA1 => ?_
    have hA1' : HA t1 = some (.tup [.str "post", .str j, .str xw, .ref ca]) := hA1
    refine ⟨_, rfl, sz (by show 1 ≤ 100000; decide), fun t2' ht2' => ?_⟩
    have sB := same_new ht2' (.tup [.ref fb])
    refine catA_of (sB _ _ hA1') upd_same (by show 4 + 1 ≤ 100000; decide) fun ob HE sE hE => ?_
    have hE' : HE ob = some (.tup [.str "post", .str j, .str xw, .ref ca, .ref fb]) := hE
    have sAE := sA.trans (sB.trans sE)
    have tkE := tkA.trans (tk_same sAE)
    refine ⟨b, r2, ob, p, .post j xw pT fp, mks, rfl, hA6.tk tkE, ⟨ca, fb, hE', gB.tk tkE, hfp.tk (tk_same sAE)⟩, tkE _ _ g56, hm103, fun r HF sF hP => ?_⟩
    exact q HF _ r ((but_same s14).trans (b6.trans ((but_same s6e).trans (b9.trans (but_same (sAE.trans sF)))))) (t9.same (sAE.trans sF)) hP (hex _ hfc)
end
end KB

namespace KB
open PySem L2 HT

theorem TBkAt.tk {H H' : Hp} (t : TK H H') {es : List TEr} {vs : List V} {p : Addr} (h : TBkAt H es vs p) : TBkAt H' es vs p := ⟨t _ _ h.1, h.2.imp fun _ _ z => z.tk t⟩
/-- a turned book, not too great -/
def BkV (H : Hp) (es : List TEr) (v : V) : Prop := ∃ p us, v = .ref p ∧ TBkAt H es us p ∧ es.length ≤ 6 ∧ ∀ e ∈ es, pcnt e.2.2 ≤ 220
theorem BkV.tk {H H' : Hp} (t : TK H H') {es : List TEr} {v : V} (h : BkV H es v) : BkV H' es v := let ⟨p, us, e, g1, g2⟩ := h; ⟨p, us, e, g1.tk t, g2⟩
def FdV (n : Nat) (H : Hp) (v : V) : Prop := (∃ z, v = .str z) ∨ ∃ p' es' us', v = .ref p' ∧ TBkAt H es' us' p' ∧ es'.length = n ∧ ∀ e ∈ es', LdE e
section
variable {P : Program} {w : World} {K : PySem.W.Frag} {mg : Str → Option Value} {base : Heap}
theorem laid_of {p : Addr} {es : List TEr} {us : List V} {H : Hp} {Q : VK} {E : _} (hB : TBkAt H es us p) (hG : GdTB es) (fin : ∀ v H', Same H H' → FdV es.length H' v → Q v H') : spLaid [.ref p] H Q E :=
  ⟨p, es, us, rfl, hB, hG, fun z H' s => fin _ H' s (.inl ⟨z, rfl⟩), fun H' p' es' us' s hB' hl hok => fin _ H' s (.inr ⟨p', es', us', rfl, hB', hl, hok⟩)⟩
/-! ### law -/
def spLaw (K : PySem.W.Frag) : Sp := fun vs H Q _ => ∃ (a : Addr) (ns : List Int), vs = [.ref a] ∧ SqL K H a (ns.map V.int) ∧ ns.length ≤ 63 ∧ ∀ H', Q (.bl true) H'
abbrev slaw : Stmt := top 43
theorem sclaw : FnScope ["script", "tape", "turned", "some", "found", "errand", "name", "names", "body", "turn", "one", "told"] ["script"] (defScope slaw) := ⟨rfl, rfl, rfl, by decide +kernel, rfl, by decide +kernel, by decide +kernel⟩
structure Cal (P : Program) (w : World) (K : PySem.W.Frag) (mg : Str → Option Value) (base : Heap) (x : Str) (ps : List Str) (k : Nat) (sp : Sp) : Prop where
  c : ∃ f fd, FnOk P w K mg base CX0 k f fd ps sp ∧ Ref K mg x f fd ps
theorem ok_law (T : Txt K mg) {f : Addr} {fd : FuncData} (F : Fun K "law" "law" slaw f fd)
    (c1 : Cal P w K mg base "_law_tape" ["script", "k"] 2 (spTape K)) (c2 : Cal P w K mg base "_law_turned_book" ["script", "start", "straight"] 17 (spTBook K))
    (c3 : Cal P w K mg base "_law_digit" ["tape", "many"] 1 spDig) (c4 : Cal P w K mg base "_law_laid" ["turned"] 18 spLaid) (c5 : Cal P w K mg base "_law_count" ["body"] 222 spCount)
    (c6 : Cal P w K mg base "_law_said_anew" ["turned"] 109 spSaid) (c7 : Cal P w K mg base "_law_bent" ["tape", "body"] 222 spBent) (c8 : Cal P w K mg base "_law_ahead" ["tape", "body"] 222 spBent)
    (c9 : Cal P w K mg base "is_laid" ["turned"] 3 spIsLaid) (c10 : Cal P w K mg base "_law_is_laid" ["turned"] 223 spLIsLaid) : FnOk P w K mg base CX0 224 f fd ["script"] (spLaw K) := by
  obtain ⟨f1, d1, G_law_tape, R_law_tape⟩ := c1.c
  obtain ⟨f2, d2, G_law_turned_book, R_law_turned_book⟩ := c2.c
  obtain ⟨f3, d3, G_law_digit, R_law_digit⟩ := c3.c
  obtain ⟨f4, d4, G_law_laid, R_law_laid⟩ := c4.c
  obtain ⟨f5, d5, G_law_count, R_law_count⟩ := c5.c
  obtain ⟨f6, d6, G_law_said_anew, R_law_said_anew⟩ := c6.c
  obtain ⟨f7, d7, G_law_bent, R_law_bent⟩ := c7.c
  obtain ⟨f8, d8, G_law_ahead, R_law_ahead⟩ := c8.c
  obtain ⟨f9, d9, Gis_laid, Ris_laid⟩ := c9.c
  obtain ⟨f10, d10, G_law_is_laid, R_law_is_laid⟩ := c10.c
  refine F.ok sclaw (fun vs H Q E h => ?_) (fun cdv A outer s H vs Q E hr h => ?_)
  · obtain ⟨a, ns, rfl, _⟩ := h
    rfl
  obtain ⟨sc, ns, rfl, hS, _, q⟩ := h
  refine ⟨_, (pss_cons (ps_set (i := 1) sclaw.nd rfl (Or.inl rfl) (pe_call G_law_tape (hr.mono (by omega)) rfl R_law_tape.m R_law_tape.k R_law_tape.b .nil pass0 (pa_cons (pv 0) (pa_cons pe_int pa_nil))))
    (pss_cons (ps_set (i := 2) sclaw.nd rfl (Or.inl rfl) (pe_call G_law_turned_book (hr.mono (by omega)) rfl R_law_turned_book.m R_law_turned_book.k R_law_turned_book.b .nil pass0 (pa_cons (pv 0) (pa_cons pe_int (pa_cons (pe_cmpR op_eq (pe_call G_law_digit (hr.mono (by omega)) rfl R_law_digit.m R_law_digit.k R_law_digit.b .nil pass0 (pa_cons (pv 1) (pa_cons pe_int pa_nil))) pe_int (nomark _)) pa_nil)))))
    (pss_cons (ps_set (i := 3) sclaw.nd rfl (Or.inl rfl) (pe_lst (pa_cons (pv 2) pa_nil)))
    (pss_cons (ps_set (i := 4) sclaw.nd rfl (Or.inl rfl) (pe_call G_law_laid (hr.mono (by omega)) rfl R_law_laid.m R_law_laid.k R_law_laid.b .nil pass0 (pa_cons (pv 2) pa_nil)))
    (Evl.pss_cut (ps_if (PW.pt (pw_and (pt_val (pe_callB call_isi (by rfl) T.m_isinstance (by decide +kernel) (pa_cons (pv 4) (pa_cons (pe_bltn (v := .ty "tuple") rfl T.m_tuple (by decide +kernel) rfl) pa_nil)))) (pw_and1 (pt_val (pe_callB (cr_all rfl) (by rfl) T.m_all (by decide +kernel) (pa_cons (pe_lc (own := [("errand", 5)]) (g := gName 5) (te := tOp (rI0 fun i j => .bl (decide (i < j))) (tCall spCount [] E0 (tCons (tOp (rIxT K) (tVar 5) (tC (.int 2))) tNil)) (tC (.int 105))) (by rfl) sclaw.nd (pi_tup (pv 4)) (blkOk_by (own := [("errand", 5)]) (N := ["script", "tape", "turned", "some", "found", "errand", "name", "names", "body", "turn", "one", "told"]) (sc := defScope slaw) (by decide +kernel)) (fun _ _ _ _ _ => (pg_name (i := 5) sclaw.nd rfl (Or.inl rfl))) (fun _ _ _ _ _ => pts_nil) (fun _ _ _ _ _ => (pe_cmpR op_lt (pe_call G_law_count (hr.mono (by omega)) rfl R_law_count.m R_law_count.k R_law_count.b .nil pass0 (pa_cons (pe_ix ix_tup (pv 5) pe_int (fun _ _ => rfl)) pa_nil)) pe_int (nomark _)))) pa_nil)))))) (pss_cons (ps_set (i := 4) sclaw.nd rfl (Or.inl rfl) (pe_call G_law_said_anew (hr.mono (by omega)) rfl R_law_said_anew.m R_law_said_anew.k R_law_said_anew.b .nil pass0 (pa_cons (pv 4) pa_nil)))
    (pss_cons (ps_expr (pe_bm PySem.F.plainAttrs_list PySem.F.slot_list_append PySem.F.type_list_append mt_append (pv 3) (pa_cons (pv 4) pa_nil)))
    (pss_cons (ps_asg (pe_ix ix_tup (pv 4) pe_int (fun _ _ => rfl)) (pg_tup rfl (pgs_cons (pg_name (i := 6) sclaw.nd rfl (Or.inl rfl)) (pgs_cons (pg_name (i := 7) sclaw.nd rfl (Or.inl rfl)) (pgs_cons (pg_name (i := 8) sclaw.nd rfl (Or.inl rfl)) pgs_nil)))))
    (pss_cons (ps_for PassesOwn.never rfl (pi_range1 rfl T.m_range (pa_cons pe_int pa_nil)) (pg_name (i := 9) sclaw.nd rfl (Or.inl rfl)) (pss_one (ps_expr (pe_bm PySem.F.plainAttrs_list PySem.F.slot_list_append PySem.F.type_list_append mt_append (pv 3) (pa_cons (pe_op op_catA (pe_tup (pa_cons (pe_tup (pa_cons (pv 6) (pa_cons (pv 7) (pa_cons (pe_call G_law_bent (hr.mono (by omega)) rfl R_law_bent.m R_law_bent.k R_law_bent.b .nil pass0 (pa_cons (pv 1) (pa_cons (pv 8) pa_nil))) pa_nil)))) pa_nil)) (pe_slice sl_tupA (pv 4) (po_some pe_int) po_none)) pa_nil)))))
    (pss_one (ps_expr (pe_bm PySem.F.plainAttrs_list PySem.F.slot_list_append PySem.F.type_list_append mt_append (pv 3) (pa_cons (pe_op op_catA (pe_tup (pa_cons (pe_tup (pa_cons (pv 6) (pa_cons (pv 7) (pa_cons (pe_call G_law_ahead (hr.mono (by omega)) rfl R_law_ahead.m R_law_ahead.k R_law_ahead.b .nil pass0 (pa_cons (pv 1) (pa_cons (pv 8) pa_nil))) pa_nil)))) pa_nil)) (pe_slice sl_tupA (pv 4) (po_some pe_int) po_none)) pa_nil)))))))) pss_nil)
    (pss_cons (ps_for PassesOwn.never rfl (pi_list (pv 3)) (pg_name (i := 10) sclaw.nd rfl (Or.inl rfl)) (pss_cons (ps_set (i := 11) sclaw.nd rfl (Or.inl rfl) (pe_call Gis_laid (hr.mono (by omega)) rfl Ris_laid.m Ris_laid.k Ris_laid.b .nil pass0 (pa_cons (pv 10) pa_nil)))
    (pss_one (ps_if (PW.pt (pw_or (pt_not (pt_val (pe_callB call_isi (by rfl) T.m_isinstance (by decide +kernel) (pa_cons (pv 11) (pa_cons (pe_bltn (v := .ty "bool") rfl T.m_bool (by decide +kernel) rfl) pa_nil))))) (pw_or1 (pt_cmpR op_ne (pv 11) (pe_call G_law_is_laid (hr.mono (by omega)) rfl R_law_is_laid.m R_law_is_laid.k R_law_is_laid.b .nil pass0 (pa_cons (pv 10) pa_nil)) (nomark _))))) (pss_one (ps_ret pe_bl)) pss_nil))))
    (pss_one (ps_ret pe_bl)))))))), ?_⟩
  have big : ∀ {k : Nat}, k ≤ 1000 → k < sizeLine := fun h => Nat.lt_of_le_of_lt h (by decide)
  -- tape
  refine ⟨_, rfl, sc, ns, 0, rfl, hS, by decide, by decide, fun hp z0 hhp => ?_⟩
  have s1 := same_new hhp (.lst [.int z0])
  have t1 : Tp (upd H hp (.lst [.int z0])) hp := ⟨z0, upd_same⟩
  generalize upd H hp (.lst [.int z0]) = H1 at s1 t1
  -- turned
  refine ⟨_, rfl, _, rfl, hp, 2, rfl, t1, by decide, by decide, fun r0 H2 r0a r0b b2 t2 => ⟨rfl, ?_⟩⟩
  have s2 : Same H H2 := fun b o hb => b2 b o (ne_of_none hb hhp) (s1 b o hb)
  refine ⟨sc, ns, 1, _, rfl, s2.seq hS, by decide, by decide, fun p es us H3 s3 hB hG => ?_⟩
  obtain ⟨hF, hGe, _⟩ := id hG.er
  have t3 := t2.same s3
  -- some
  refine ⟨_, rfl, sz (by show 1 ≤ 100000; decide), fun sl hsl => ?_⟩
  have s4 := same_new hsl (.lst [.ref p])
  have l4 : upd H3 sl (.lst [.ref p]) sl = some (.lst [.ref p]) := upd_same
  have t4 := t3.same s4
  have nsh : sl ≠ hp := by
    obtain ⟨z, hz⟩ := t3
    exact (ne_of_none hz hsl).symm
  have hB4 := hB.tk (tk_same s4)
  generalize upd H3 sl (.lst [.ref p]) = H4 at l4 t4 hB4
  have hbk : ∀ {H' : Hp}, TK H4 H' → BkV H' es (.ref p) := fun tk => ⟨p, us, rfl, hB4.tk tk, hG.len.2, fun e he => Nat.le_trans (hGe e he).cn (by decide)⟩
  -- found
  refine ⟨_, rfl, ?_⟩
  dsimp only [tNil, List.append_nil, List.cons_append, List.nil_append]
  refine laid_of hB4 hG fun v H5 s5 hv => ?_
  have l5 := s5 _ _ l4
  have t5 := t4.same s5
  refine ⟨fun σ' H' => ∃ o4 o6 o7 o8 o9 bs acc, σ' = [some (.ref sc), some (.ref hp), some (.ref p), some (.ref sl), o4, none, o6, o7, o8, o9, none, none] ∧ H' sl = some (.lst acc) ∧ All2 (BkV H') bs acc, ?_, ?_⟩
  · rcases hv with ⟨z, rfl⟩ | ⟨p', es', us', rfl, hB5, hl5, hld⟩
    · refine ⟨_, rfl, .str z, .ty "tuple", .type "str", .type "tuple", false, rfl, .ty "tuple", .base (.str z), kit_ty (by decide +kernel), _, rfl, ?_⟩
      exact iteF (iteF ⟨_, _, _, _, _, [es], [.ref p], rfl, l5, ⟨hbk (tk_same s5), trivial⟩⟩)
    · refine ⟨_, rfl, .ref p', .ty "tuple", .type "tuple", .type "tuple", true, rfl, .ty "tuple", .base (.tup hB5.1), kit_ty (by decide +kernel), _, rfl, ?_⟩
      refine iteT ?_
      have hul := hB5.2.len
      have hl6 : es'.length ≤ 6 := by rw [hl5]; exact hG.len.2
      refine ⟨_, rfl, p', rfl, ⟨_, SqT.of hB5.1⟩, fun D hD => lc_tup (K := K) (a := p') (xs := us') (fun i H' => Same H5 H' ∧ H' D = some (.lst (((es'.take i).map fun e => decide ((wtP e.2.2 : Int) < 105)).map V.bl))) ⟨same_new hD _, upd_same⟩ ?_ ?_ ?_⟩
      · rintro i H' _ ⟨sA, _⟩
        exact SqT.of (sA _ _ hB5.1)
      · rintro i x H6 hx ⟨s6, h6⟩
        obtain ⟨e, he, qa, r, b, rfl, g1, g2, g3⟩ := hB5.2.get hx
        obtain ⟨hj, hj2⟩ := List.getElem?_eq_some_iff.mp he
        have ge := hld e (mem_of_get he)
        refine ⟨rfl, ?_⟩
        dsimp only [tYes]
        refine iteT ⟨_, rfl, qa, _, _, _, rfl, rfl, SqT.of (s6 _ _ g1), at2, b, e.2.2, rfl, g3.tk (tk_same s6), sc_kT ge.sc, by have := pcnt_wt e.2.2; have := ge.wt; omega, fun H7 s7 => ?_⟩
        refine ⟨_, _, rfl, rfl, _, s7 _ _ h6, big (by rw [List.length_map, List.length_map, List.length_take]; omega), same_mut (s6.trans s7) hD, ?_⟩
        rw [upd_same, List.take_succ_eq_append_getElem hj, hj2, List.map_append, List.map_append]
        rfl
      rintro H6 ⟨s6, h6⟩
      rw [hul, List.take_length] at h6
      refine ⟨D, _, rfl, SqL.of h6, _, rfl, ?_⟩
      have l6 := s6 _ _ l5
      have t6 := t5.same s6
      have hB6 := hB5.tk (tk_same s6)
      refine ite2 (fun c => ?_) (fun c => ⟨_, _, _, _, _, [es], [.ref p], rfl, l6, ⟨hbk ((tk_same s5).trans (tk_same s6)), trivial⟩⟩)
      rw [List.all_map] at c
      have hcc : ∀ e ∈ es', pcnt e.2.2 ≤ 104 := fun e he => by
        have h1 := List.all_eq_true.mp c e he
        have h2 : (wtP e.2.2 : Int) < 105 := of_decide_eq_true h1
        have := pcnt_wt e.2.2
        omega
      -- said anew
      refine ⟨_, rfl, p', es', us', rfl, hB6, hl6, fun e he => ⟨hld e he, hcc e he⟩, fun H7 r es2 us2 s7 hB7 hl7 hsd => ?_⟩
      have l7 := s7 _ _ l6
      have t7 := t6.same s7
      refine ⟨_, rfl, .inl ⟨rfl, _, SqL.of l7⟩, _, rfl, sl, _, _, rfl, rfl, l7, big (by show 1 ≤ 1000; decide), ?_⟩
      have s57 : Same H4 H7 := s5.trans (s6.trans s7)
      have tk8 := tk_put (o := .lst [.ref p, .ref r]) l7
      have l8 : upd H7 sl (.lst [.ref p, .ref r]) sl = some (.lst [.ref p, .ref r]) := upd_same
      have t8 : Tp (upd H7 sl (.lst [.ref p, .ref r])) hp := by
        obtain ⟨z, hz⟩ := t7
        exact ⟨z, by rw [upd_ne nsh.symm]; exact hz⟩
      have hB8 := hB7.tk tk8
      have hb8 := hbk ((tk_same s57).trans tk8)
      show _
      rw [show ([V.ref p] ++ [V.ref r]) = [.ref p, .ref r] from rfl]
      generalize upd H7 sl (.lst [.ref p, .ref r]) = H8 at l8 t8 hB8 hb8
      have hl26 : es2.length ≤ 6 := by omega
      have hc2 : ∀ e ∈ es2, pcnt e.2.2 ≤ 220 := fun e he => Nat.le_trans (hsd e he).c (by decide)
      have hbr : BkV H8 es2 (.ref r) := ⟨r, us2, rfl, hB8, hl26, hc2⟩
      obtain ⟨e0, er, rfl⟩ : ∃ e0 er, es2 = e0 :: er := by
        cases hq : es2 with
        | nil =>
          have h1 := hG.len.1
          rw [hq] at hl7
          have h0 : 0 = es'.length := hl7
          omega
        | cons e0 er => exact ⟨e0, er, rfl⟩
      obtain ⟨v0, vr, rfl⟩ : ∃ v0 vr, us2 = v0 :: vr := by
        have := hB8.2.len
        cases us2 with
        | nil => cases this
        | cons v0 vr => exact ⟨v0, vr, rfl⟩
      obtain ⟨⟨q0, rn, b0, rfl, g1, g2, g3⟩, hrest⟩ := id hB8.2
      have hsd0 := hsd e0 List.mem_cons_self
      refine ⟨_, rfl, r, _, _, _, rfl, rfl, SqT.of hB8.1, at0, q0, _, rfl, SqT.of g1, rfl, _, _, rfl, _, _, rfl, _, _, rfl, rfl, ?_⟩
      have hvl : vr.length = er.length := hrest.len
      have hel : er.length + 1 ≤ 6 := hl26
      have mk : ∀ {H' : Hp} {t1 t4 bb : Addr} {pp : Pt}, TK H8 H' → H' t1 = some (.tup [.str e0.1, .ref rn, .ref bb]) → PAt H' pp bb → pcnt pp ≤ 220 → H' t4 = some (.tup (.ref t1 :: vr)) → BkV H' ((e0.1, e0.2.1, pp) :: er) (.ref t4) := fun tk h1 hP hc h4 =>
        ⟨_, _, rfl, ⟨h4, ⟨⟨_, rn, _, rfl, h1, tk _ _ g2, hP⟩, hrest.imp fun _ _ z => z.tk tk⟩⟩, hl26, fun e he => by
          rcases List.mem_cons.mp he with z | z
          · rw [z]; exact hc
          · exact hc2 e (List.mem_cons_of_mem _ z)⟩
      refine ⟨4, rfl, by decide, by decide, for_range (lo := 0) (n := 4) (fun i σ H' => ∃ o9 bs acc, σ = [some (.ref sc), some (.ref hp), some (.ref p), some (.ref sl), some (.ref r), none, some (.str e0.1), some (.ref rn), some (.ref b0), o9, none, none] ∧ TK H8 H' ∧ Tp H' hp ∧ H' sl = some (.lst acc) ∧ All2 (BkV H') bs acc ∧ acc.length = 2 + i) ⟨_, [es, e0 :: er], _, rfl, (fun _ _ z => z), t8, l8, ⟨hb8, hbr, trivial⟩, rfl⟩ ?_ ?_⟩
      · rintro i σ H9 hi ⟨o9, bs, acc, rfl, tk9, t9, l9, k9, hal⟩
        refine ⟨_, rfl, .inl ⟨rfl, _, SqL.of l9⟩, ?_⟩
        refine ⟨_, rfl, _, rfl, _, rfl, _, rfl, hp, b0, e0.2.2, rfl, t9, g3.tk tk9, hsd0.k, hsd0.c, hsd0.h, fun HA pp bb bA tA hP hc => ⟨sz (by show 3 ≤ 100000; decide), fun x1 hx1 => ⟨sz (by show 1 ≤ 100000; decide), fun x2 hx2 => ?_⟩⟩⟩
        have sA := same_new hx1 (.tup [.str e0.1, .ref rn, .ref bb])
        have sB := same_new hx2 (.tup [.ref x1])
        have sAB := sA.trans sB
        have y1 := sB _ _ (upd_same (H := HA) (a := x1) (o := .tup [.str e0.1, .ref rn, .ref bb]))
        have y2 : upd (upd HA x1 (.tup [.str e0.1, .ref rn, .ref bb])) x2 (.tup [.ref x1]) x2 = some (.tup [.ref x1]) := upd_same
        have tkA := But1.tk t9 bA
        have lA := bA _ _ nsh l9
        generalize upd (upd HA x1 (.tup [.str e0.1, .ref rn, .ref bb])) x2 (.tup [.ref x1]) = HB at sAB y1 y2
        refine ⟨_, rfl, _, rfl, ?_⟩
        dsimp only [tNoPart]
        refine slA_of (K := K) (lo := some 1) (hi := none) ((tk9.trans (tkA.trans (tk_same sAB))) _ _ hB8.1) fun x3 HC sC hC => ?_
        rw [cut1] at hC
        refine catA_of (sC _ _ y2) hC (by show 1 + vr.length ≤ 100000; omega) fun x4 HD sD hD => ?_
        have sAD := sAB.trans (sC.trans sD)
        have hD' : HD x4 = some (.tup (.ref x1 :: vr)) := hD
        refine ⟨sl, _, _, rfl, rfl, sAD _ _ lA, big (by omega), ?_⟩
        have tk0 := tk_put (o := .lst (acc ++ [.ref x4])) (sAD _ _ lA)
        have tkM := (tkA.trans (tk_same sAD)).trans tk0
        have tkF := tk9.trans tkM
        have tF : Tp (upd HD sl (.lst (acc ++ [.ref x4]))) hp := by
          obtain ⟨z, hz⟩ := tA.same sAD
          exact ⟨z, by rw [upd_ne nsh.symm]; exact hz⟩
        have kF : All2 (BkV (upd HD sl (.lst (acc ++ [.ref x4])))) (bs ++ [(e0.1, e0.2.1, pp) :: er]) (acc ++ [.ref x4]) := (k9.imp fun _ _ z => BkV.tk tkM z).app ⟨mk tkF (tk0 _ _ ((sC.trans sD) _ _ y1)) (((hP.tk (tk_same sAD)).tk tk0)) hc (tk0 _ _ hD'), trivial⟩
        exact ⟨_, bs ++ [_], _, rfl, tkF, tF, upd_same, kF, by rw [List.length_append, List.length_singleton, hal]; omega⟩
      · rintro σ H9 ⟨o9, bs, acc, rfl, tk9, t9, l9, k9, hal⟩
        have hi : acc.length ≤ 6 := by omega
        refine ⟨_, rfl, .inl ⟨rfl, _, SqL.of l9⟩, ?_⟩
        refine ⟨_, rfl, _, rfl, _, rfl, _, rfl, hp, b0, e0.2.2, rfl, t9, g3.tk tk9, hsd0.k, hsd0.c, hsd0.h, fun HA pp bb bA tA hP hc => ⟨sz (by show 3 ≤ 100000; decide), fun x1 hx1 => ⟨sz (by show 1 ≤ 100000; decide), fun x2 hx2 => ?_⟩⟩⟩
        have sA := same_new hx1 (.tup [.str e0.1, .ref rn, .ref bb])
        have sB := same_new hx2 (.tup [.ref x1])
        have sAB := sA.trans sB
        have y1 := sB _ _ (upd_same (H := HA) (a := x1) (o := .tup [.str e0.1, .ref rn, .ref bb]))
        have y2 : upd (upd HA x1 (.tup [.str e0.1, .ref rn, .ref bb])) x2 (.tup [.ref x1]) x2 = some (.tup [.ref x1]) := upd_same
        have tkA := But1.tk t9 bA
        have lA := bA _ _ nsh l9
        generalize upd (upd HA x1 (.tup [.str e0.1, .ref rn, .ref bb])) x2 (.tup [.ref x1]) = HB at sAB y1 y2
        refine ⟨_, rfl, _, rfl, ?_⟩
        dsimp only [tNoPart]
        refine slA_of (K := K) (lo := some 1) (hi := none) ((tk9.trans (tkA.trans (tk_same sAB))) _ _ hB8.1) fun x3 HC sC hC => ?_
        rw [cut1] at hC
        refine catA_of (sC _ _ y2) hC (by show 1 + vr.length ≤ 100000; omega) fun x4 HD sD hD => ?_
        have sAD := sAB.trans (sC.trans sD)
        have hD' : HD x4 = some (.tup (.ref x1 :: vr)) := hD
        refine ⟨sl, _, _, rfl, rfl, sAD _ _ lA, big (by omega), ?_⟩
        have tk0 := tk_put (o := .lst (acc ++ [.ref x4])) (sAD _ _ lA)
        have tkM := (tkA.trans (tk_same sAD)).trans tk0
        have tkF := tk9.trans tkM
        have tF : Tp (upd HD sl (.lst (acc ++ [.ref x4]))) hp := by
          obtain ⟨z, hz⟩ := tA.same sAD
          exact ⟨z, by rw [upd_ne nsh.symm]; exact hz⟩
        have kF : All2 (BkV (upd HD sl (.lst (acc ++ [.ref x4])))) (bs ++ [(e0.1, e0.2.1, pp) :: er]) (acc ++ [.ref x4]) := (k9.imp fun _ _ z => BkV.tk tkM z).app ⟨mk tkF (tk0 _ _ ((sC.trans sD) _ _ y1)) (((hP.tk (tk_same sAD)).tk tk0)) hc (tk0 _ _ hD'), trivial⟩
        exact ⟨_, _, _, _, _, bs ++ [_], _, rfl, upd_same, kF⟩
  · rintro σ H5 ⟨o4, o6, o7, o8, o9, bs, acc, rfl, l5, k5⟩
    refine ⟨_, rfl, sl, rfl, ⟨_, SqL.of l5⟩, for_list (K := K) (a := sl) (xs := acc) (fun i σ H' => ∃ o10 o11, σ = [some (.ref sc), some (.ref hp), some (.ref p), some (.ref sl), o4, none, o6, o7, o8, o9, o10, o11] ∧ Same H5 H') ⟨_, _, rfl, Same.refl _⟩ ?_ ?_ ?_⟩
    · rintro i σ H' _ ⟨o10, o11, rfl, sA⟩
      exact SqL.of (sA _ _ l5)
    · rintro i x σ H6 hx ⟨o10, o11, rfl, s6⟩
      obtain ⟨eb, heb, pb, ub, rfl, hBb, hlb, hcb⟩ := k5.get hx
      have hB6 := hBb.tk (tk_same s6)
      refine ⟨_, rfl, pb, eb, ub, rfl, hB6, hlb, fun e he => Nat.le_trans (hcb e he) (by decide), fun H7 s7 => ?_⟩
      refine ⟨_, rfl, .bl _, .ty "bool", .type "bool", .type "bool", true, rfl, .ty "bool", .base (.bl _), kit_ty (by decide +kernel), _, rfl, ?_⟩
      refine iteF ⟨_, rfl, _, rfl, pb, eb, ub, rfl, hB6.tk (tk_same s7), hlb, hcb, fun H8 s8 => ⟨rfl, _, rfl, itF ?_ ⟨_, _, rfl, s6.trans (s7.trans s8)⟩⟩⟩
      rw [books_same, decide_eq_true rfl]
      rfl
    · rintro σ H6 ⟨o10, o11, rfl, s6⟩
      exact q _
end
end KB

namespace KB
open PySem L2
theorem all_mk {l : PySem.W.OpenLaw} {w : World} {K : PySem.W.Frag} {h : Heap} {mg : Str → Option Value} {fa : Addr} (X : K.In h) (G : h.Ns mainGlobals mg) (hfa : mg "law" = some (.ref fa))
    {f1 f2 f3 f4 f5 f6 f7 f8 f9 f10 f11 f12 f13 f14 f15 f16 f17 f18 f19 f20 f21 f22 f23 f24 f25 f26 f27 f28 f29 f30 f31 f32 f33 f34 f35 f36 f37 f38 f39 f40 : Addr}
    {od1 an1 od2 an2 od3 an3 od4 an4 od5 an5 od6 an6 od7 an7 od8 an8 od9 an9 od10 an10 od11 an11 od12 an12 od13 an13 od14 an14 od15 an15 od16 an16 od17 an17 od18 an18 od19 an19 od20 an20 od21 an21 od22 an22 od23 an23 od24 an24 od25 an25 od26 an26 od27 an27 od28 an28 od29 an29 od30 an30 od31 an31 od32 an32 od33 an33 od34 an34 od35 an35 od36 an36 od37 an37 od38 an38 od39 an39 od40 an40  : Option Addr}
    {sl1 sl2 sl3 sl4 sl5 sl6 sl7 sl8 sl9 sl10 sl11 sl12 sl13 sl14 sl15 sl16 sl17 sl18 sl19 sl20 sl21 sl22 sl23 sl24 sl25 sl26 sl27 sl28 sl29 sl30 sl31 sl32 sl33 sl34 sl35 sl36 sl37 sl38 sl39 sl40  : Array (Option Value)}
    {oc1 kV1 dc1 pm1 cd1 ct1 oc2 kV2 dc2 pm2 cd2 ct2 oc3 kV3 dc3 pm3 cd3 ct3 oc4 kV4 dc4 pm4 cd4 ct4 oc5 kV5 dc5 pm5 cd5 ct5 oc6 kV6 dc6 pm6 cd6 ct6 oc7 kV7 dc7 pm7 cd7 ct7 oc8 kV8 dc8 pm8 cd8 ct8 oc9 kV9 dc9 pm9 cd9 ct9 oc10 kV10 dc10 pm10 cd10 ct10 oc11 kV11 dc11 pm11 cd11 ct11 oc12 kV12 dc12 pm12 cd12 ct12 oc13 kV13 dc13 pm13 cd13 ct13 oc14 kV14 dc14 pm14 cd14 ct14 oc15 kV15 dc15 pm15 cd15 ct15 oc16 kV16 dc16 pm16 cd16 ct16 oc17 kV17 dc17 pm17 cd17 ct17 oc18 kV18 dc18 pm18 cd18 ct18 oc19 kV19 dc19 pm19 cd19 ct19 oc20 kV20 dc20 pm20 cd20 ct20 oc21 kV21 dc21 pm21 cd21 ct21 oc22 kV22 dc22 pm22 cd22 ct22 oc23 kV23 dc23 pm23 cd23 ct23 oc24 kV24 dc24 pm24 cd24 ct24 oc25 kV25 dc25 pm25 cd25 ct25 oc26 kV26 dc26 pm26 cd26 ct26 oc27 kV27 dc27 pm27 cd27 ct27 oc28 kV28 dc28 pm28 cd28 ct28 oc29 kV29 dc29 pm29 cd29 ct29 oc30 kV30 dc30 pm30 cd30 ct30 oc31 kV31 dc31 pm31 cd31 ct31 oc32 kV32 dc32 pm32 cd32 ct32 oc33 kV33 dc33 pm33 cd33 ct33 oc34 kV34 dc34 pm34 cd34 ct34 oc35 kV35 dc35 pm35 cd35 ct35 oc36 kV36 dc36 pm36 cd36 ct36 oc37 kV37 dc37 pm37 cd37 ct37 oc38 kV38 dc38 pm38 cd38 ct38 oc39 kV39 dc39 pm39 cd39 ct39 oc40 kV40 dc40 pm40 cd40 ct40  : Value}
    (a1 : PySem.W.nsIn K mainGlobals "rest_of" = some (some (.ref f1)))
    (l1 : K.lookup f1 = some ⟨oc1, od1, .func (PySem.W.fnOf "rest_of" "rest_of" (defArgs srest_of) (defBody srest_of) (defScope srest_of) .none kV1 dc1 pm1 an1 cd1 ct1), sl1⟩)
    (c1 : PySem.W.codeIn K cd1 "rest_of" = true)
    (k1 : PySem.W.keepIn K (.ref f1) = true)
    (a2 : PySem.W.nsIn K mainGlobals "is_laid" = some (some (.ref f2)))
    (l2 : K.lookup f2 = some ⟨oc2, od2, .func (PySem.W.fnOf "is_laid" "is_laid" (defArgs sis_laid) (defBody sis_laid) (defScope sis_laid) .none kV2 dc2 pm2 an2 cd2 ct2), sl2⟩)
    (c2 : PySem.W.codeIn K cd2 "is_laid" = true)
    (k2 : PySem.W.keepIn K (.ref f2) = true)
    (a3 : PySem.W.nsIn K mainGlobals "is_body_laid" = some (some (.ref f3)))
    (l3 : K.lookup f3 = some ⟨oc3, od3, .func (PySem.W.fnOf "is_body_laid" "is_body_laid" (defArgs sis_body_laid) (defBody sis_body_laid) (defScope sis_body_laid) .none kV3 dc3 pm3 an3 cd3 ct3), sl3⟩)
    (c3 : PySem.W.codeIn K cd3 "is_body_laid" = true)
    (k3 : PySem.W.keepIn K (.ref f3) = true)
    (a4 : PySem.W.nsIn K mainGlobals "is_part_laid" = some (some (.ref f4)))
    (l4 : K.lookup f4 = some ⟨oc4, od4, .func (PySem.W.fnOf "is_part_laid" "is_part_laid" (defArgs sis_part_laid) (defBody sis_part_laid) (defScope sis_part_laid) .none kV4 dc4 pm4 an4 cd4 ct4), sl4⟩)
    (c4 : PySem.W.codeIn K cd4 "is_part_laid" = true)
    (k4 : PySem.W.keepIn K (.ref f4) = true)
    (a5 : PySem.W.nsIn K mainGlobals "_law_cell_at" = some (some (.ref f5)))
    (l5 : K.lookup f5 = some ⟨oc5, od5, .func (PySem.W.fnOf "_law_cell_at" "_law_cell_at" (defArgs s_law_cell_at) (defBody s_law_cell_at) (defScope s_law_cell_at) .none kV5 dc5 pm5 an5 cd5 ct5), sl5⟩)
    (c5 : PySem.W.codeIn K cd5 "_law_cell_at" = true)
    (k5 : PySem.W.keepIn K (.ref f5) = true)
    (a6 : PySem.W.nsIn K mainGlobals "_law_tape" = some (some (.ref f6)))
    (l6 : K.lookup f6 = some ⟨oc6, od6, .func (PySem.W.fnOf "_law_tape" "_law_tape" (defArgs s_law_tape) (defBody s_law_tape) (defScope s_law_tape) .none kV6 dc6 pm6 an6 cd6 ct6), sl6⟩)
    (c6 : PySem.W.codeIn K cd6 "_law_tape" = true)
    (k6 : PySem.W.keepIn K (.ref f6) = true)
    (a7 : PySem.W.nsIn K mainGlobals "_law_digit" = some (some (.ref f7)))
    (l7 : K.lookup f7 = some ⟨oc7, od7, .func (PySem.W.fnOf "_law_digit" "_law_digit" (defArgs s_law_digit) (defBody s_law_digit) (defScope s_law_digit) .none kV7 dc7 pm7 an7 cd7 ct7), sl7⟩)
    (c7 : PySem.W.codeIn K cd7 "_law_digit" = true)
    (k7 : PySem.W.keepIn K (.ref f7) = true)
    (a8 : PySem.W.nsIn K mainGlobals "_law_words" = some (some (.ref f8)))
    (l8 : K.lookup f8 = some ⟨oc8, od8, .func (PySem.W.fnOf "_law_words" "_law_words" (defArgs s_law_words) (defBody s_law_words) (defScope s_law_words) .none kV8 dc8 pm8 an8 cd8 ct8), sl8⟩)
    (c8 : PySem.W.codeIn K cd8 "_law_words" = true)
    (k8 : PySem.W.keepIn K (.ref f8) = true)
    (a9 : PySem.W.nsIn K mainGlobals "_law_number" = some (some (.ref f9)))
    (l9 : K.lookup f9 = some ⟨oc9, od9, .func (PySem.W.fnOf "_law_number" "_law_number" (defArgs s_law_number) (defBody s_law_number) (defScope s_law_number) .none kV9 dc9 pm9 an9 cd9 ct9), sl9⟩)
    (c9 : PySem.W.codeIn K cd9 "_law_number" = true)
    (k9 : PySem.W.keepIn K (.ref f9) = true)
    (a10 : PySem.W.nsIn K mainGlobals "_law_leaf" = some (some (.ref f10)))
    (l10 : K.lookup f10 = some ⟨oc10, od10, .func (PySem.W.fnOf "_law_leaf" "_law_leaf" (defArgs s_law_leaf) (defBody s_law_leaf) (defScope s_law_leaf) .none kV10 dc10 pm10 an10 cd10 ct10), sl10⟩)
    (c10 : PySem.W.codeIn K cd10 "_law_leaf" = true)
    (k10 : PySem.W.keepIn K (.ref f10) = true)
    (a11 : PySem.W.nsIn K mainGlobals "_law_shares" = some (some (.ref f11)))
    (l11 : K.lookup f11 = some ⟨oc11, od11, .func (PySem.W.fnOf "_law_shares" "_law_shares" (defArgs s_law_shares) (defBody s_law_shares) (defScope s_law_shares) .none kV11 dc11 pm11 an11 cd11 ct11), sl11⟩)
    (c11 : PySem.W.codeIn K cd11 "_law_shares" = true)
    (k11 : PySem.W.keepIn K (.ref f11) = true)
    (a12 : PySem.W.nsIn K mainGlobals "_law_less_one" = some (some (.ref f12)))
    (l12 : K.lookup f12 = some ⟨oc12, od12, .func (PySem.W.fnOf "_law_less_one" "_law_less_one" (defArgs s_law_less_one) (defBody s_law_less_one) (defScope s_law_less_one) .none kV12 dc12 pm12 an12 cd12 ct12), sl12⟩)
    (c12 : PySem.W.codeIn K cd12 "_law_less_one" = true)
    (k12 : PySem.W.keepIn K (.ref f12) = true)
    (a13 : PySem.W.nsIn K mainGlobals "_law_simple" = some (some (.ref f13)))
    (l13 : K.lookup f13 = some ⟨oc13, od13, .func (PySem.W.fnOf "_law_simple" "_law_simple" (defArgs s_law_simple) (defBody s_law_simple) (defScope s_law_simple) .none kV13 dc13 pm13 an13 cd13 ct13), sl13⟩)
    (c13 : PySem.W.codeIn K cd13 "_law_simple" = true)
    (k13 : PySem.W.keepIn K (.ref f13) = true)
    (a14 : PySem.W.nsIn K mainGlobals "_law_some_hand" = some (some (.ref f14)))
    (l14 : K.lookup f14 = some ⟨oc14, od14, .func (PySem.W.fnOf "_law_some_hand" "_law_some_hand" (defArgs s_law_some_hand) (defBody s_law_some_hand) (defScope s_law_some_hand) .none kV14 dc14 pm14 an14 cd14 ct14), sl14⟩)
    (c14 : PySem.W.codeIn K cd14 "_law_some_hand" = true)
    (k14 : PySem.W.keepIn K (.ref f14) = true)
    (a15 : PySem.W.nsIn K mainGlobals "_law_end" = some (some (.ref f15)))
    (l15 : K.lookup f15 = some ⟨oc15, od15, .func (PySem.W.fnOf "_law_end" "_law_end" (defArgs s_law_end) (defBody s_law_end) (defScope s_law_end) .none kV15 dc15 pm15 an15 cd15 ct15), sl15⟩)
    (c15 : PySem.W.codeIn K cd15 "_law_end" = true)
    (k15 : PySem.W.keepIn K (.ref f15) = true)
    (a16 : PySem.W.nsIn K mainGlobals "_law_part" = some (some (.ref f16)))
    (l16 : K.lookup f16 = some ⟨oc16, od16, .func (PySem.W.fnOf "_law_part" "_law_part" (defArgs s_law_part) (defBody s_law_part) (defScope s_law_part) .none kV16 dc16 pm16 an16 cd16 ct16), sl16⟩)
    (c16 : PySem.W.codeIn K cd16 "_law_part" = true)
    (k16 : PySem.W.keepIn K (.ref f16) = true)
    (a17 : PySem.W.nsIn K mainGlobals "_law_turned_body" = some (some (.ref f17)))
    (l17 : K.lookup f17 = some ⟨oc17, od17, .func (PySem.W.fnOf "_law_turned_body" "_law_turned_body" (defArgs s_law_turned_body) (defBody s_law_turned_body) (defScope s_law_turned_body) .none kV17 dc17 pm17 an17 cd17 ct17), sl17⟩)
    (c17 : PySem.W.codeIn K cd17 "_law_turned_body" = true)
    (k17 : PySem.W.keepIn K (.ref f17) = true)
    (a18 : PySem.W.nsIn K mainGlobals "_law_turned_book" = some (some (.ref f18)))
    (l18 : K.lookup f18 = some ⟨oc18, od18, .func (PySem.W.fnOf "_law_turned_book" "_law_turned_book" (defArgs s_law_turned_book) (defBody s_law_turned_book) (defScope s_law_turned_book) .none kV18 dc18 pm18 an18 cd18 ct18), sl18⟩)
    (c18 : PySem.W.codeIn K cd18 "_law_turned_book" = true)
    (k18 : PySem.W.keepIn K (.ref f18) = true)
    (a19 : PySem.W.nsIn K mainGlobals "_law_shape_term" = some (some (.ref f19)))
    (l19 : K.lookup f19 = some ⟨oc19, od19, .func (PySem.W.fnOf "_law_shape_term" "_law_shape_term" (defArgs s_law_shape_term) (defBody s_law_shape_term) (defScope s_law_shape_term) .none kV19 dc19 pm19 an19 cd19 ct19), sl19⟩)
    (c19 : PySem.W.codeIn K cd19 "_law_shape_term" = true)
    (k19 : PySem.W.keepIn K (.ref f19) = true)
    (a20 : PySem.W.nsIn K mainGlobals "_law_shape_part" = some (some (.ref f20)))
    (l20 : K.lookup f20 = some ⟨oc20, od20, .func (PySem.W.fnOf "_law_shape_part" "_law_shape_part" (defArgs s_law_shape_part) (defBody s_law_shape_part) (defScope s_law_shape_part) .none kV20 dc20 pm20 an20 cd20 ct20), sl20⟩)
    (c20 : PySem.W.codeIn K cd20 "_law_shape_part" = true)
    (k20 : PySem.W.keepIn K (.ref f20) = true)
    (a21 : PySem.W.nsIn K mainGlobals "_law_shape" = some (some (.ref f21)))
    (l21 : K.lookup f21 = some ⟨oc21, od21, .func (PySem.W.fnOf "_law_shape" "_law_shape" (defArgs s_law_shape) (defBody s_law_shape) (defScope s_law_shape) .none kV21 dc21 pm21 an21 cd21 ct21), sl21⟩)
    (c21 : PySem.W.codeIn K cd21 "_law_shape" = true)
    (k21 : PySem.W.keepIn K (.ref f21) = true)
    (a22 : PySem.W.nsIn K mainGlobals "_law_terms" = some (some (.ref f22)))
    (l22 : K.lookup f22 = some ⟨oc22, od22, .func (PySem.W.fnOf "_law_terms" "_law_terms" (defArgs s_law_terms) (defBody s_law_terms) (defScope s_law_terms) .none kV22 dc22 pm22 an22 cd22 ct22), sl22⟩)
    (c22 : PySem.W.codeIn K cd22 "_law_terms" = true)
    (k22 : PySem.W.keepIn K (.ref f22) = true)
    (a23 : PySem.W.nsIn K mainGlobals "_law_size" = some (some (.ref f23)))
    (l23 : K.lookup f23 = some ⟨oc23, od23, .func (PySem.W.fnOf "_law_size" "_law_size" (defArgs s_law_size) (defBody s_law_size) (defScope s_law_size) .none kV23 dc23 pm23 an23 cd23 ct23), sl23⟩)
    (c23 : PySem.W.codeIn K cd23 "_law_size" = true)
    (k23 : PySem.W.keepIn K (.ref f23) = true)
    (a24 : PySem.W.nsIn K mainGlobals "_law_kids" = some (some (.ref f24)))
    (l24 : K.lookup f24 = some ⟨oc24, od24, .func (PySem.W.fnOf "_law_kids" "_law_kids" (defArgs s_law_kids) (defBody s_law_kids) (defScope s_law_kids) .none kV24 dc24 pm24 an24 cd24 ct24), sl24⟩)
    (c24 : PySem.W.codeIn K cd24 "_law_kids" = true)
    (k24 : PySem.W.keepIn K (.ref f24) = true)
    (a25 : PySem.W.nsIn K mainGlobals "_law_all" = some (some (.ref f25)))
    (l25 : K.lookup f25 = some ⟨oc25, od25, .func (PySem.W.fnOf "_law_all" "_law_all" (defArgs s_law_all) (defBody s_law_all) (defScope s_law_all) .none kV25 dc25 pm25 an25 cd25 ct25), sl25⟩)
    (c25 : PySem.W.codeIn K cd25 "_law_all" = true)
    (k25 : PySem.W.keepIn K (.ref f25) = true)
    (a26 : PySem.W.nsIn K mainGlobals "_law_all_of" = some (some (.ref f26)))
    (l26 : K.lookup f26 = some ⟨oc26, od26, .func (PySem.W.fnOf "_law_all_of" "_law_all_of" (defArgs s_law_all_of) (defBody s_law_all_of) (defScope s_law_all_of) .none kV26 dc26 pm26 an26 cd26 ct26), sl26⟩)
    (c26 : PySem.W.codeIn K cd26 "_law_all_of" = true)
    (k26 : PySem.W.keepIn K (.ref f26) = true)
    (a27 : PySem.W.nsIn K mainGlobals "_law_lay" = some (some (.ref f27)))
    (l27 : K.lookup f27 = some ⟨oc27, od27, .func (PySem.W.fnOf "_law_lay" "_law_lay" (defArgs s_law_lay) (defBody s_law_lay) (defScope s_law_lay) .none kV27 dc27 pm27 an27 cd27 ct27), sl27⟩)
    (c27 : PySem.W.codeIn K cd27 "_law_lay" = true)
    (k27 : PySem.W.keepIn K (.ref f27) = true)
    (a28 : PySem.W.nsIn K mainGlobals "_law_laid" = some (some (.ref f28)))
    (l28 : K.lookup f28 = some ⟨oc28, od28, .func (PySem.W.fnOf "_law_laid" "_law_laid" (defArgs s_law_laid) (defBody s_law_laid) (defScope s_law_laid) .none kV28 dc28 pm28 an28 cd28 ct28), sl28⟩)
    (c28 : PySem.W.codeIn K cd28 "_law_laid" = true)
    (k28 : PySem.W.keepIn K (.ref f28) = true)
    (a29 : PySem.W.nsIn K mainGlobals "_law_is_laid" = some (some (.ref f29)))
    (l29 : K.lookup f29 = some ⟨oc29, od29, .func (PySem.W.fnOf "_law_is_laid" "_law_is_laid" (defArgs s_law_is_laid) (defBody s_law_is_laid) (defScope s_law_is_laid) .none kV29 dc29 pm29 an29 cd29 ct29), sl29⟩)
    (c29 : PySem.W.codeIn K cd29 "_law_is_laid" = true)
    (k29 : PySem.W.keepIn K (.ref f29) = true)
    (a30 : PySem.W.nsIn K mainGlobals "_law_ends_home" = some (some (.ref f30)))
    (l30 : K.lookup f30 = some ⟨oc30, od30, .func (PySem.W.fnOf "_law_ends_home" "_law_ends_home" (defArgs s_law_ends_home) (defBody s_law_ends_home) (defScope s_law_ends_home) .none kV30 dc30 pm30 an30 cd30 ct30), sl30⟩)
    (c30 : PySem.W.codeIn K cd30 "_law_ends_home" = true)
    (k30 : PySem.W.keepIn K (.ref f30) = true)
    (a31 : PySem.W.nsIn K mainGlobals "_law_put" = some (some (.ref f31)))
    (l31 : K.lookup f31 = some ⟨oc31, od31, .func (PySem.W.fnOf "_law_put" "_law_put" (defArgs s_law_put) (defBody s_law_put) (defScope s_law_put) .none kV31 dc31 pm31 an31 cd31 ct31), sl31⟩)
    (c31 : PySem.W.codeIn K cd31 "_law_put" = true)
    (k31 : PySem.W.keepIn K (.ref f31) = true)
    (a32 : PySem.W.nsIn K mainGlobals "_law_around" = some (some (.ref f32)))
    (l32 : K.lookup f32 = some ⟨oc32, od32, .func (PySem.W.fnOf "_law_around" "_law_around" (defArgs s_law_around) (defBody s_law_around) (defScope s_law_around) .none kV32 dc32 pm32 an32 cd32 ct32), sl32⟩)
    (c32 : PySem.W.codeIn K cd32 "_law_around" = true)
    (k32 : PySem.W.keepIn K (.ref f32) = true)
    (a33 : PySem.W.nsIn K mainGlobals "_law_count" = some (some (.ref f33)))
    (l33 : K.lookup f33 = some ⟨oc33, od33, .func (PySem.W.fnOf "_law_count" "_law_count" (defArgs s_law_count) (defBody s_law_count) (defScope s_law_count) .none kV33 dc33 pm33 an33 cd33 ct33), sl33⟩)
    (c33 : PySem.W.codeIn K cd33 "_law_count" = true)
    (k33 : PySem.W.keepIn K (.ref f33) = true)
    (a34 : PySem.W.nsIn K mainGlobals "_law_sign" = some (some (.ref f34)))
    (l34 : K.lookup f34 = some ⟨oc34, od34, .func (PySem.W.fnOf "_law_sign" "_law_sign" (defArgs s_law_sign) (defBody s_law_sign) (defScope s_law_sign) .none kV34 dc34 pm34 an34 cd34 ct34), sl34⟩)
    (c34 : PySem.W.codeIn K cd34 "_law_sign" = true)
    (k34 : PySem.W.keepIn K (.ref f34) = true)
    (a35 : PySem.W.nsIn K mainGlobals "_law_said_term" = some (some (.ref f35)))
    (l35 : K.lookup f35 = some ⟨oc35, od35, .func (PySem.W.fnOf "_law_said_term" "_law_said_term" (defArgs s_law_said_term) (defBody s_law_said_term) (defScope s_law_said_term) .none kV35 dc35 pm35 an35 cd35 ct35), sl35⟩)
    (c35 : PySem.W.codeIn K cd35 "_law_said_term" = true)
    (k35 : PySem.W.keepIn K (.ref f35) = true)
    (a36 : PySem.W.nsIn K mainGlobals "_law_said_part" = some (some (.ref f36)))
    (l36 : K.lookup f36 = some ⟨oc36, od36, .func (PySem.W.fnOf "_law_said_part" "_law_said_part" (defArgs s_law_said_part) (defBody s_law_said_part) (defScope s_law_said_part) .none kV36 dc36 pm36 an36 cd36 ct36), sl36⟩)
    (c36 : PySem.W.codeIn K cd36 "_law_said_part" = true)
    (k36 : PySem.W.keepIn K (.ref f36) = true)
    (a37 : PySem.W.nsIn K mainGlobals "_law_said_anew" = some (some (.ref f37)))
    (l37 : K.lookup f37 = some ⟨oc37, od37, .func (PySem.W.fnOf "_law_said_anew" "_law_said_anew" (defArgs s_law_said_anew) (defBody s_law_said_anew) (defScope s_law_said_anew) .none kV37 dc37 pm37 an37 cd37 ct37), sl37⟩)
    (c37 : PySem.W.codeIn K cd37 "_law_said_anew" = true)
    (k37 : PySem.W.keepIn K (.ref f37) = true)
    (a38 : PySem.W.nsIn K mainGlobals "_law_bent" = some (some (.ref f38)))
    (l38 : K.lookup f38 = some ⟨oc38, od38, .func (PySem.W.fnOf "_law_bent" "_law_bent" (defArgs s_law_bent) (defBody s_law_bent) (defScope s_law_bent) .none kV38 dc38 pm38 an38 cd38 ct38), sl38⟩)
    (c38 : PySem.W.codeIn K cd38 "_law_bent" = true)
    (k38 : PySem.W.keepIn K (.ref f38) = true)
    (a39 : PySem.W.nsIn K mainGlobals "_law_ahead" = some (some (.ref f39)))
    (l39 : K.lookup f39 = some ⟨oc39, od39, .func (PySem.W.fnOf "_law_ahead" "_law_ahead" (defArgs s_law_ahead) (defBody s_law_ahead) (defScope s_law_ahead) .none kV39 dc39 pm39 an39 cd39 ct39), sl39⟩)
    (c39 : PySem.W.codeIn K cd39 "_law_ahead" = true)
    (k39 : PySem.W.keepIn K (.ref f39) = true)
    (a40 : PySem.W.nsIn K mainGlobals "law" = some (some (.ref f40)))
    (l40 : K.lookup f40 = some ⟨oc40, od40, .func (PySem.W.fnOf "law" "law" (defArgs slaw) (defBody slaw) (defScope slaw) .none kV40 dc40 pm40 an40 cd40 ct40), sl40⟩)
    (c40 : PySem.W.codeIn K cd40 "law" = true)
    (k40 : PySem.W.keepIn K (.ref f40) = true)
    (z_len : PySem.W.nsIn K mainGlobals "len" = some none)
    (z_isinstance : PySem.W.nsIn K mainGlobals "isinstance" = some none)
    (z_int : PySem.W.nsIn K mainGlobals "int" = some none)
    (z_tuple : PySem.W.nsIn K mainGlobals "tuple" = some none)
    (z_list : PySem.W.nsIn K mainGlobals "list" = some none)
    (z_str : PySem.W.nsIn K mainGlobals "str" = some none)
    (z_bool : PySem.W.nsIn K mainGlobals "bool" = some none)
    (z_max : PySem.W.nsIn K mainGlobals "max" = some none)
    (z_all : PySem.W.nsIn K mainGlobals "all" = some none)
    (z_dict : PySem.W.nsIn K mainGlobals "dict" = some none)
    (z_range : PySem.W.nsIn K mainGlobals "range" = some none)
    (z_enumerate : PySem.W.nsIn K mainGlobals "enumerate" = some none)
    (z_reversed : PySem.W.nsIn K mainGlobals "reversed" = some none)
    (z_sum : PySem.W.nsIn K mainGlobals "sum" = some none)
    {tHOME : Tok}
    (qHOME : PySem.W.nsIn K mainGlobals "HOME" = some (some (.str "home" tHOME)))
    : ∃ fd : FuncData, (∀ (s : Shared) (v : Value), BindsTo s fd ⟨[v], []⟩ [("script", v)]) ∧ ∀ base : Heap, K.In base → base.Ns mainGlobals mg → FnOk l.prog w K mg base CX0 224 fa fd ["script"] (spLaw K) := by
  have e := hfa.symm.trans (PySem.W.mg_of X G a40)
  cases e
  have T : Txt K mg := ⟨PySem.W.mg_none_of X G z_len, PySem.W.mg_none_of X G z_isinstance, PySem.W.mg_none_of X G z_int, PySem.W.mg_none_of X G z_tuple, PySem.W.mg_none_of X G z_list, PySem.W.mg_none_of X G z_str, PySem.W.mg_none_of X G z_bool, PySem.W.mg_none_of X G z_max, PySem.W.mg_none_of X G z_all, PySem.W.mg_none_of X G z_dict, PySem.W.mg_none_of X G z_range, PySem.W.mg_none_of X G z_enumerate, PySem.W.mg_none_of X G z_reversed⟩
  have F1 := fun_mk (st := srest_of) l1 c1 k1
  have R1 : Ref K mg "rest_of" f1 _ ["part"] := ⟨PySem.W.mg_of X G a1, k1, F1.binds (ps := ["part"]) fun _ _ _ _ _ _ us hl => match us, hl with | [_], _ => rfl⟩
  have F2 := fun_mk (st := sis_laid) l2 c2 k2
  have R2 : Ref K mg "is_laid" f2 _ ["turned"] := ⟨PySem.W.mg_of X G a2, k2, F2.binds (ps := ["turned"]) fun _ _ _ _ _ _ us hl => match us, hl with | [_], _ => rfl⟩
  have F3 := fun_mk (st := sis_body_laid) l3 c3 k3
  have R3 : Ref K mg "is_body_laid" f3 _ ["body"] := ⟨PySem.W.mg_of X G a3, k3, F3.binds (ps := ["body"]) fun _ _ _ _ _ _ us hl => match us, hl with | [_], _ => rfl⟩
  have F4 := fun_mk (st := sis_part_laid) l4 c4 k4
  have R4 : Ref K mg "is_part_laid" f4 _ ["part", "due"] := ⟨PySem.W.mg_of X G a4, k4, F4.binds (ps := ["part", "due"]) fun _ _ _ _ _ _ us hl => match us, hl with | [_, _], _ => rfl⟩
  have F5 := fun_mk (st := s_law_cell_at) l5 c5 k5
  have R5 : Ref K mg "_law_cell_at" f5 _ ["script", "k"] := ⟨PySem.W.mg_of X G a5, k5, F5.binds (ps := ["script", "k"]) fun _ _ _ _ _ _ us hl => match us, hl with | [_, _], _ => rfl⟩
  have F6 := fun_mk (st := s_law_tape) l6 c6 k6
  have R6 : Ref K mg "_law_tape" f6 _ ["script", "k"] := ⟨PySem.W.mg_of X G a6, k6, F6.binds (ps := ["script", "k"]) fun _ _ _ _ _ _ us hl => match us, hl with | [_, _], _ => rfl⟩
  have F7 := fun_mk (st := s_law_digit) l7 c7 k7
  have R7 : Ref K mg "_law_digit" f7 _ ["tape", "many"] := ⟨PySem.W.mg_of X G a7, k7, F7.binds (ps := ["tape", "many"]) fun _ _ _ _ _ _ us hl => match us, hl with | [_, _], _ => rfl⟩
  have F8 := fun_mk (st := s_law_words) l8 c8 k8
  have R8 : Ref K mg "_law_words" f8 _ ["tape", "many"] := ⟨PySem.W.mg_of X G a8, k8, F8.binds (ps := ["tape", "many"]) fun _ _ _ _ _ _ us hl => match us, hl with | [_, _], _ => rfl⟩
  have F9 := fun_mk (st := s_law_number) l9 c9 k9
  have R9 : Ref K mg "_law_number" f9 _ ["tape"] := ⟨PySem.W.mg_of X G a9, k9, F9.binds (ps := ["tape"]) fun _ _ _ _ _ _ us hl => match us, hl with | [_], _ => rfl⟩
  have F10 := fun_mk (st := s_law_leaf) l10 c10 k10
  have R10 : Ref K mg "_law_leaf" f10 _ ["tape", "known", "around"] := ⟨PySem.W.mg_of X G a10, k10, F10.binds (ps := ["tape", "known", "around"]) fun _ _ _ _ _ _ us hl => match us, hl with | [_, _, _], _ => rfl⟩
  have F11 := fun_mk (st := s_law_shares) l11 c11 k11
  have R11 : Ref K mg "_law_shares" f11 _ ["tape", "room", "many"] := ⟨PySem.W.mg_of X G a11, k11, F11.binds (ps := ["tape", "room", "many"]) fun _ _ _ _ _ _ us hl => match us, hl with | [_, _, _], _ => rfl⟩
  have F12 := fun_mk (st := s_law_less_one) l12 c12 k12
  have R12 : Ref K mg "_law_less_one" f12 _ ["around"] := ⟨PySem.W.mg_of X G a12, k12, F12.binds (ps := ["around"]) fun _ _ _ _ _ _ us hl => match us, hl with | [_], _ => rfl⟩
  have F13 := fun_mk (st := s_law_simple) l13 c13 k13
  have R13 : Ref K mg "_law_simple" f13 _ ["tape", "around", "deep"] := ⟨PySem.W.mg_of X G a13, k13, F13.binds (ps := ["tape", "around", "deep"]) fun _ _ _ _ _ _ us hl => match us, hl with | [_, _, _], _ => rfl⟩
  have F14 := fun_mk (st := s_law_some_hand) l14 c14 k14
  have R14 : Ref K mg "_law_some_hand" f14 _ ["tape", "known", "hands"] := ⟨PySem.W.mg_of X G a14, k14, F14.binds (ps := ["tape", "known", "hands"]) fun _ _ _ _ _ _ us hl => match us, hl with | [_, _, _], _ => rfl⟩
  have F15 := fun_mk (st := s_law_end) l15 c15 k15
  have R15 : Ref K mg "_law_end" f15 _ ["tape", "known", "around", "hands"] := ⟨PySem.W.mg_of X G a15, k15, F15.binds (ps := ["tape", "known", "around", "hands"]) fun _ _ _ _ _ _ us hl => match us, hl with | [_, _, _, _], _ => rfl⟩
  have F16 := fun_mk (st := s_law_part) l16 c16 k16
  have R16 : Ref K mg "_law_part" f16 _ ["tape", "known", "around", "hands", "room", "deep"] := ⟨PySem.W.mg_of X G a16, k16, F16.binds (ps := ["tape", "known", "around", "hands", "room", "deep"]) fun _ _ _ _ _ _ us hl => match us, hl with | [_, _, _, _, _, _], _ => rfl⟩
  have F17 := fun_mk (st := s_law_turned_body) l17 c17 k17
  have R17 : Ref K mg "_law_turned_body" f17 _ ["tape", "known", "names"] := ⟨PySem.W.mg_of X G a17, k17, F17.binds (ps := ["tape", "known", "names"]) fun _ _ _ _ _ _ us hl => match us, hl with | [_, _, _], _ => rfl⟩
  have F18 := fun_mk (st := s_law_turned_book) l18 c18 k18
  have R18 : Ref K mg "_law_turned_book" f18 _ ["script", "start", "straight"] := ⟨PySem.W.mg_of X G a18, k18, F18.binds (ps := ["script", "start", "straight"]) fun _ _ _ _ _ _ us hl => match us, hl with | [_, _, _], _ => rfl⟩
  have F19 := fun_mk (st := s_law_shape_term) l19 c19 k19
  have R19 : Ref K mg "_law_shape_term" f19 _ ["term", "words"] := ⟨PySem.W.mg_of X G a19, k19, F19.binds (ps := ["term", "words"]) fun _ _ _ _ _ _ us hl => match us, hl with | [_, _], _ => rfl⟩
  have F20 := fun_mk (st := s_law_shape_part) l20 c20 k20
  have R20 : Ref K mg "_law_shape_part" f20 _ ["part", "words", "hands", "now"] := ⟨PySem.W.mg_of X G a20, k20, F20.binds (ps := ["part", "words", "hands", "now"]) fun _ _ _ _ _ _ us hl => match us, hl with | [_, _, _, _], _ => rfl⟩
  have F21 := fun_mk (st := s_law_shape) l21 c21 k21
  have R21 : Ref K mg "_law_shape" f21 _ ["turned"] := ⟨PySem.W.mg_of X G a21, k21, F21.binds (ps := ["turned"]) fun _ _ _ _ _ _ us hl => match us, hl with | [_], _ => rfl⟩
  have F22 := fun_mk (st := s_law_terms) l22 c22 k22
  have R22 : Ref K mg "_law_terms" f22 _ ["part"] := ⟨PySem.W.mg_of X G a22, k22, F22.binds (ps := ["part"]) fun _ _ _ _ _ _ us hl => match us, hl with | [_], _ => rfl⟩
  have F23 := fun_mk (st := s_law_size) l23 c23 k23
  have R23 : Ref K mg "_law_size" f23 _ ["term"] := ⟨PySem.W.mg_of X G a23, k23, F23.binds (ps := ["term"]) fun _ _ _ _ _ _ us hl => match us, hl with | [_], _ => rfl⟩
  have F24 := fun_mk (st := s_law_kids) l24 c24 k24
  have R24 : Ref K mg "_law_kids" f24 _ ["part"] := ⟨PySem.W.mg_of X G a24, k24, F24.binds (ps := ["part"]) fun _ _ _ _ _ _ us hl => match us, hl with | [_], _ => rfl⟩
  have F25 := fun_mk (st := s_law_all) l25 c25 k25
  have R25 : Ref K mg "_law_all" f25 _ ["part", "place"] := ⟨PySem.W.mg_of X G a25, k25, F25.binds (ps := ["part", "place"]) fun _ _ _ _ _ _ us hl => match us, hl with | [_, _], _ => rfl⟩
  have F26 := fun_mk (st := s_law_all_of) l26 c26 k26
  have R26 : Ref K mg "_law_all_of" f26 _ ["turned"] := ⟨PySem.W.mg_of X G a26, k26, F26.binds (ps := ["turned"]) fun _ _ _ _ _ _ us hl => match us, hl with | [_], _ => rfl⟩
  have F27 := fun_mk (st := s_law_lay) l27 c27 k27
  have R27 : Ref K mg "_law_lay" f27 _ ["now", "part", "hands"] := ⟨PySem.W.mg_of X G a27, k27, F27.binds (ps := ["now", "part", "hands"]) fun _ _ _ _ _ _ us hl => match us, hl with | [_, _, _], _ => rfl⟩
  have F28 := fun_mk (st := s_law_laid) l28 c28 k28
  have R28 : Ref K mg "_law_laid" f28 _ ["turned"] := ⟨PySem.W.mg_of X G a28, k28, F28.binds (ps := ["turned"]) fun _ _ _ _ _ _ us hl => match us, hl with | [_], _ => rfl⟩
  have F29 := fun_mk (st := s_law_is_laid) l29 c29 k29
  have R29 : Ref K mg "_law_is_laid" f29 _ ["turned"] := ⟨PySem.W.mg_of X G a29, k29, F29.binds (ps := ["turned"]) fun _ _ _ _ _ _ us hl => match us, hl with | [_], _ => rfl⟩
  have F30 := fun_mk (st := s_law_ends_home) l30 c30 k30
  have R30 : Ref K mg "_law_ends_home" f30 _ ["part"] := ⟨PySem.W.mg_of X G a30, k30, F30.binds (ps := ["part"]) fun _ _ _ _ _ _ us hl => match us, hl with | [_], _ => rfl⟩
  have F31 := fun_mk (st := s_law_put) l31 c31 k31
  have R31 : Ref K mg "_law_put" f31 _ ["part", "numbers", "other"] := ⟨PySem.W.mg_of X G a31, k31, F31.binds (ps := ["part", "numbers", "other"]) fun _ _ _ _ _ _ us hl => match us, hl with | [_, _, _], _ => rfl⟩
  have F32 := fun_mk (st := s_law_around) l32 c32 k32
  have R32 : Ref K mg "_law_around" f32 _ ["part", "numbers", "hands"] := ⟨PySem.W.mg_of X G a32, k32, F32.binds (ps := ["part", "numbers", "hands"]) fun _ _ _ _ _ _ us hl => match us, hl with | [_, _, _], _ => rfl⟩
  have F33 := fun_mk (st := s_law_count) l33 c33 k33
  have R33 : Ref K mg "_law_count" f33 _ ["body"] := ⟨PySem.W.mg_of X G a33, k33, F33.binds (ps := ["body"]) fun _ _ _ _ _ _ us hl => match us, hl with | [_], _ => rfl⟩
  have F34 := fun_mk (st := s_law_sign) l34 c34 k34
  have R34 : Ref K mg "_law_sign" f34 _ ["first", "k"] := ⟨PySem.W.mg_of X G a34, k34, F34.binds (ps := ["first", "k"]) fun _ _ _ _ _ _ us hl => match us, hl with | [_, _], _ => rfl⟩
  have F35 := fun_mk (st := s_law_said_term) l35 c35 k35
  have R35 : Ref K mg "_law_said_term" f35 _ ["term"] := ⟨PySem.W.mg_of X G a35, k35, F35.binds (ps := ["term"]) fun _ _ _ _ _ _ us hl => match us, hl with | [_], _ => rfl⟩
  have F36 := fun_mk (st := s_law_said_part) l36 c36 k36
  have R36 : Ref K mg "_law_said_part" f36 _ ["part"] := ⟨PySem.W.mg_of X G a36, k36, F36.binds (ps := ["part"]) fun _ _ _ _ _ _ us hl => match us, hl with | [_], _ => rfl⟩
  have F37 := fun_mk (st := s_law_said_anew) l37 c37 k37
  have R37 : Ref K mg "_law_said_anew" f37 _ ["turned"] := ⟨PySem.W.mg_of X G a37, k37, F37.binds (ps := ["turned"]) fun _ _ _ _ _ _ us hl => match us, hl with | [_], _ => rfl⟩
  have F38 := fun_mk (st := s_law_bent) l38 c38 k38
  have R38 : Ref K mg "_law_bent" f38 _ ["tape", "body"] := ⟨PySem.W.mg_of X G a38, k38, F38.binds (ps := ["tape", "body"]) fun _ _ _ _ _ _ us hl => match us, hl with | [_, _], _ => rfl⟩
  have F39 := fun_mk (st := s_law_ahead) l39 c39 k39
  have R39 : Ref K mg "_law_ahead" f39 _ ["tape", "body"] := ⟨PySem.W.mg_of X G a39, k39, F39.binds (ps := ["tape", "body"]) fun _ _ _ _ _ _ us hl => match us, hl with | [_, _], _ => rfl⟩
  have F40 := fun_mk (st := slaw) l40 c40 k40
  refine ⟨PySem.W.fnOf "law" "law" (defArgs slaw) (defBody slaw) (defScope slaw) .none kV40 dc40 pm40 an40 cd40 ct40, fun s v => .of_eq rfl, fun base _ _ => ?_⟩
  have G_law_cell_at := ok_cell (P := l.prog) (w := w) (mg := mg) (base := base) T F5
  have G_law_tape := ok_tape (P := l.prog) (w := w) (mg := mg) (base := base) T F6 G_law_cell_at R5
  have G_law_digit := ok_dig (P := l.prog) (w := w) (mg := mg) (base := base) F7
  have G_law_words := ok_words (P := l.prog) (w := w) (mg := mg) (base := base) T F8 G_law_digit R7
  have G_law_number := ok_num (P := l.prog) (w := w) (mg := mg) (base := base) F9 G_law_digit R7
  have G_law_leaf := ok_leaf (P := l.prog) (w := w) (mg := mg) (base := base) T F10 G_law_digit R7 G_law_number R9
  have G_law_shares := ok_shares (P := l.prog) (w := w) (mg := mg) (base := base) T F11 G_law_digit R7
  have G_law_less_one := ok_less (P := l.prog) (w := w) (mg := mg) (base := base) F12
  have G_law_simple := all_simple (P := l.prog) (w := w) (mg := mg) (base := base) T F13 G_law_digit R7 G_law_leaf R10 R13
  have G_law_some_hand := ok_hand (P := l.prog) (w := w) (mg := mg) (base := base) T F14 G_law_digit R7
  have G_law_end := ok_end (P := l.prog) (w := w) (mg := mg) (base := base) T F15 G_law_digit R7 G_law_some_hand R14 G_law_less_one R12 G_law_simple R13
  have G_law_part := all_part (P := l.prog) (w := w) (mg := mg) (base := base) T F16 G_law_digit R7 G_law_some_hand R14 G_law_end R15 G_law_simple R13 G_law_shares R11 R16 8
  have G_law_turned_body := ok_tbody (P := l.prog) (w := w) (mg := mg) (base := base) T F17 G_law_digit R7 G_law_part R16
  have G_law_turned_book := ok_tbook (P := l.prog) (w := w) (mg := mg) (base := base) T F18 G_law_digit R7 G_law_tape R6 G_law_words R8 G_law_turned_body R17
  have Grest_of := ok_rest (P := l.prog) (w := w) (mg := mg) (base := base) F1
  have Gis_part_laid := ok_pl (P := l.prog) (w := w) (mg := mg) (base := base) ⟨_, PySem.W.mg_of X G qHOME⟩ F4
  have Gis_body_laid := ok_bl (P := l.prog) (w := w) (mg := mg) (base := base) ⟨_, PySem.W.mg_of X G qHOME⟩ F3 Gis_part_laid R4 Grest_of R1
  have Gis_laid := ok_il (P := l.prog) (w := w) (mg := mg) (base := base) T F2 Gis_body_laid R3
  have G_law_kids := ok_lkids (P := l.prog) (w := w) (mg := mg) (base := base) F24
  have G_law_all := all_lall (P := l.prog) (w := w) (mg := mg) (base := base) F25 G_law_kids R24 R25 220
  have G_law_all_of := ok_lallof (P := l.prog) (w := w) (mg := mg) (base := base) F26 G_law_all R25
  have G_law_around := all_lar (P := l.prog) (w := w) (mg := mg) (base := base) (PySem.W.mg_none_of X G z_dict) F32 G_law_kids R24 R32 104
  have G_law_put := all_lput (P := l.prog) (w := w) (mg := mg) (base := base) T F31 G_law_kids R24 R31 104
  have G_law_terms := ok_lterms (P := l.prog) (w := w) (mg := mg) (base := base) T F22
  have G_law_size := all_size (P := l.prog) (w := w) (mg := mg) (base := base) T (PySem.W.mg_none_of X G z_sum) F23 R23 2
  have G_law_lay := all_lay (P := l.prog) (w := w) (mg := mg) (base := base) T (PySem.W.mg_none_of X G z_sum) F27 R27 G_law_terms R22 G_law_size R23 13
  have G_law_laid := ok_laid (P := l.prog) (w := w) (mg := mg) (base := base) T F28 G_law_lay R27
  have G_law_ends_home := all_endsH (P := l.prog) (w := w) (mg := mg) (base := base) T F30 R30 G_law_kids R24 220
  have G_law_is_laid := ok_lisl (P := l.prog) (w := w) (mg := mg) (base := base) F29 G_law_all_of R26 G_law_ends_home R30
  have G_law_count := ok_count (P := l.prog) (w := w) (mg := mg) (base := base) (PySem.W.mg_none_of X G z_sum) F33 G_law_all R25 G_law_terms R22 G_law_size R23
  have G_law_shape_term := all_shT (P := l.prog) (w := w) (mg := mg) (base := base) T F19 R19 2
  have G_law_shape_part := all_shP (P := l.prog) (w := w) (mg := mg) (base := base) T F20 R20 G_law_shape_term R19 104
  have G_law_shape := ok_shape (P := l.prog) (w := w) (mg := mg) (base := base) T F21 G_law_shape_part R20
  have G_law_sign := ok_sign (P := l.prog) (w := w) (mg := mg) (base := base) F34
  have G_law_said_term := all_sdT (P := l.prog) (w := w) (mg := mg) (base := base) T F35 G_law_sign R34 R35 2
  have G_law_said_part := all_sdP (P := l.prog) (w := w) (mg := mg) (base := base) T F36 G_law_sign R34 G_law_said_term R35 R36 104
  have G_law_said_anew := ok_said (P := l.prog) (w := w) (mg := mg) (base := base) T F37 G_law_shape R21 G_law_sign R34 G_law_said_part R36
  have G_law_bent := ok_bent (P := l.prog) (w := w) (mg := mg) (base := base) T F38 G_law_digit R7 G_law_all R25 G_law_around R32 G_law_put R31
  have G_law_ahead := ok_ahead (P := l.prog) (w := w) (mg := mg) (base := base) T F39 G_law_digit R7 G_law_all R25 G_law_put R31
  exact ok_law T F40 ⟨_, _, G_law_tape, R6⟩ ⟨_, _, G_law_turned_book, R18⟩ ⟨_, _, G_law_digit, R7⟩ ⟨_, _, G_law_laid, R28⟩ ⟨_, _, G_law_count, R33⟩ ⟨_, _, G_law_said_anew, R37⟩ ⟨_, _, G_law_bent, R38⟩ ⟨_, _, G_law_ahead, R39⟩ ⟨_, _, Gis_laid, R2⟩ ⟨_, _, G_law_is_laid, R29⟩
theorem walk {l : PySem.W.OpenLaw} {q : Program} {loose : List Str} {XP : (Str → Option Value) → Heap → Prop} {YP : World → Heap → Prop} {d : DefRec} {K : Params → PySem.W.Frag} (hn : l.most = some 63) (hdf : d.params.defaults = [])
    (hY : ∀ (w : World) (h : Heap), YP w h → (K w.params).In h)
    (F : ∀ (w : World) (mg : Str → Option Value) (fa : Addr) (h : Heap), (K w.params).In h → h.Ns mainGlobals mg → mg d.name = some (.ref fa) →
      ∃ fd : FuncData, (∀ (s : Shared) (u : Value), BindsTo s fd ⟨[u], []⟩ [("script", u)]) ∧ ∀ base : Heap, (K w.params).In base → base.Ns mainGlobals mg → FnOk l.prog w (K w.params) mg base CX0 224 fa fd ["script"] (spLaw (K w.params))) :
    PySem.W.WalkO q loose XP YP l.row.toRowW d [] (fun f vs => PySem.call f vs) :=
  L2.walk_of (n := 63) (k := 224) (x := "script") (CX := fun _ => CX0) (sp := fun w => spLaw (K w.params)) hn (by decide) hdf ⟨rfl, by decide, by decide⟩ hY F (fun _ _ a ns hl _ hS => ⟨a, ns, rfl, hS, hl, fun _ => rfl⟩) fun _ _ _ _ _ z => z
end KB

open PySem PySem.W PyProof.Rows in
set_option maxRecDepth 100000 in
set_option maxHeartbeats 0 in
theorem PySem.Challenge.cw_whatnext_k30_which_are_laid_holds : PySem.Challenge.rw_whatnext_k30_which_are_laid.Holds := by
  w_on; o_law; k_head; (case hw => w_witness2)
  k_fill
  refine KB.walk (l := PySem.Challenge.rw_whatnext_k30_which_are_laid) rfl rfl (fun w h Y => PySem.W.kIn_of Y) ?F
  case F =>
    intro w mg fa h KX G hmg
    refine' KB.all_mk KX G hmg ?a1 ?l1 ?c1 ?k1 ?a2 ?l2 ?c2 ?k2 ?a3 ?l3 ?c3 ?k3 ?a4 ?l4 ?c4 ?k4 ?a5 ?l5 ?c5 ?k5 ?a6 ?l6 ?c6 ?k6 ?a7 ?l7 ?c7 ?k7 ?a8 ?l8 ?c8 ?k8 ?a9 ?l9 ?c9 ?k9 ?a10 ?l10 ?c10 ?k10 ?a11 ?l11 ?c11 ?k11 ?a12 ?l12 ?c12 ?k12 ?a13 ?l13 ?c13 ?k13 ?a14 ?l14 ?c14 ?k14 ?a15 ?l15 ?c15 ?k15 ?a16 ?l16 ?c16 ?k16 ?a17 ?l17 ?c17 ?k17 ?a18 ?l18 ?c18 ?k18 ?a19 ?l19 ?c19 ?k19 ?a20 ?l20 ?c20 ?k20 ?a21 ?l21 ?c21 ?k21 ?a22 ?l22 ?c22 ?k22 ?a23 ?l23 ?c23 ?k23 ?a24 ?l24 ?c24 ?k24 ?a25 ?l25 ?c25 ?k25 ?a26 ?l26 ?c26 ?k26 ?a27 ?l27 ?c27 ?k27 ?a28 ?l28 ?c28 ?k28 ?a29 ?l29 ?c29 ?k29 ?a30 ?l30 ?c30 ?k30 ?a31 ?l31 ?c31 ?k31 ?a32 ?l32 ?c32 ?k32 ?a33 ?l33 ?c33 ?k33 ?a34 ?l34 ?c34 ?k34 ?a35 ?l35 ?c35 ?k35 ?a36 ?l36 ?c36 ?k36 ?a37 ?l37 ?c37 ?k37 ?a38 ?l38 ?c38 ?k38 ?a39 ?l39 ?c39 ?k39 ?a40 ?l40 ?c40 ?k40 ?z_len ?z_isinstance ?z_int ?z_tuple ?z_list ?z_str ?z_bool ?z_max ?z_all ?z_dict ?z_range ?z_enumerate ?z_reversed ?z_sum ?qHOME
    (case a1 => k_is)
    (case l1 => k_is)
    (case c1 => k_is)
    (case k1 => k_is)
    (case a2 => k_is)
    (case l2 => k_is)
    (case c2 => k_is)
    (case k2 => k_is)
    (case a3 => k_is)
    (case l3 => k_is)
    (case c3 => k_is)
    (case k3 => k_is)
    (case a4 => k_is)
    (case l4 => k_is)
    (case c4 => k_is)
    (case k4 => k_is)
    (case a5 => k_is)
    (case l5 => k_is)
    (case c5 => k_is)
    (case k5 => k_is)
    (case a6 => k_is)
    (case l6 => k_is)
    (case c6 => k_is)
    (case k6 => k_is)
    (case a7 => k_is)
    (case l7 => k_is)
    (case c7 => k_is)
    (case k7 => k_is)
    (case a8 => k_is)
    (case l8 => k_is)
    (case c8 => k_is)
    (case k8 => k_is)
    (case a9 => k_is)
    (case l9 => k_is)
    (case c9 => k_is)
    (case k9 => k_is)
    (case a10 => k_is)
    (case l10 => k_is)
    (case c10 => k_is)
    (case k10 => k_is)
    (case a11 => k_is)
    (case l11 => k_is)
    (case c11 => k_is)
    (case k11 => k_is)
    (case a12 => k_is)
    (case l12 => k_is)
    (case c12 => k_is)
    (case k12 => k_is)
    (case a13 => k_is)
    (case l13 => k_is)
    (case c13 => k_is)
    (case k13 => k_is)
    (case a14 => k_is)
    (case l14 => k_is)
    (case c14 => k_is)
    (case k14 => k_is)
    (case a15 => k_is)
    (case l15 => k_is)
    (case c15 => k_is)
    (case k15 => k_is)
    (case a16 => k_is)
    (case l16 => k_is)
    (case c16 => k_is)
    (case k16 => k_is)
    (case a17 => k_is)
    (case l17 => k_is)
    (case c17 => k_is)
    (case k17 => k_is)
    (case a18 => k_is)
    (case l18 => k_is)
    (case c18 => k_is)
    (case k18 => k_is)
    (case a19 => k_is)
    (case l19 => k_is)
    (case c19 => k_is)
    (case k19 => k_is)
    (case a20 => k_is)
    (case l20 => k_is)
    (case c20 => k_is)
    (case k20 => k_is)
    (case a21 => k_is)
    (case l21 => k_is)
    (case c21 => k_is)
    (case k21 => k_is)
    (case a22 => k_is)
    (case l22 => k_is)
    (case c22 => k_is)
    (case k22 => k_is)
    (case a23 => k_is)
    (case l23 => k_is)
    (case c23 => k_is)
    (case k23 => k_is)
    (case a24 => k_is)
    (case l24 => k_is)
    (case c24 => k_is)
    (case k24 => k_is)
    (case a25 => k_is)
    (case l25 => k_is)
    (case c25 => k_is)
    (case k25 => k_is)
    (case a26 => k_is)
    (case l26 => k_is)
    (case c26 => k_is)
    (case k26 => k_is)
    (case a27 => k_is)
    (case l27 => k_is)
    (case c27 => k_is)
    (case k27 => k_is)
    (case a28 => k_is)
    (case l28 => k_is)
    (case c28 => k_is)
    (case k28 => k_is)
    (case a29 => k_is)
    (case l29 => k_is)
    (case c29 => k_is)
    (case k29 => k_is)
    (case a30 => k_is)
    (case l30 => k_is)
    (case c30 => k_is)
    (case k30 => k_is)
    (case a31 => k_is)
    (case l31 => k_is)
    (case c31 => k_is)
    (case k31 => k_is)
    (case a32 => k_is)
    (case l32 => k_is)
    (case c32 => k_is)
    (case k32 => k_is)
    (case a33 => k_is)
    (case l33 => k_is)
    (case c33 => k_is)
    (case k33 => k_is)
    (case a34 => k_is)
    (case l34 => k_is)
    (case c34 => k_is)
    (case k34 => k_is)
    (case a35 => k_is)
    (case l35 => k_is)
    (case c35 => k_is)
    (case k35 => k_is)
    (case a36 => k_is)
    (case l36 => k_is)
    (case c36 => k_is)
    (case k36 => k_is)
    (case a37 => k_is)
    (case l37 => k_is)
    (case c37 => k_is)
    (case k37 => k_is)
    (case a38 => k_is)
    (case l38 => k_is)
    (case c38 => k_is)
    (case k38 => k_is)
    (case a39 => k_is)
    (case l39 => k_is)
    (case c39 => k_is)
    (case k39 => k_is)
    (case a40 => k_is)
    (case l40 => k_is)
    (case c40 => k_is)
    (case k40 => k_is)
    (case z_len => k_is)
    (case z_isinstance => k_is)
    (case z_int => k_is)
    (case z_tuple => k_is)
    (case z_list => k_is)
    (case z_str => k_is)
    (case z_bool => k_is)
    (case z_max => k_is)
    (case z_all => k_is)
    (case z_dict => k_is)
    (case z_range => k_is)
    (case z_enumerate => k_is)
    (case z_reversed => k_is)
    (case z_sum => k_is)
    (case qHOME => k_is)
#print axioms PySem.Challenge.cw_whatnext_k30_which_are_laid_holds
