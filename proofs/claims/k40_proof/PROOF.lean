import PyProof.Rows.All
import Wide.All
import OpenK.AllK
import Wide.FinOn
import HandS.ForMost
import HandS.TupAny
import HandS.Style
import HandS.IsInst
import HandS.Star
import HandS.RevRange
import HandS.Wide
import HandS.Conv
import PyProof.StrOps2
import HandS.Evl
import HandS.CallLocal
import HandS.Lambda
import HandS.Nested
import HandS.EndTab
import KE.KNestM
import HandS.Flow
import HandS.Walk
import HandS.Strs
import PyProof.Rows.SetFrom
import KE.KDictZip
import HandS.Zip
import HandS.DictComp
import HandS.ForExc
import PySem.Challenge.RW_whatnext_k40_whole_slim_runs
set_option Elab.async false
set_option maxRecDepth 100000
set_option maxHeartbeats 8000000
set_option linter.unusedVariables false
namespace KB
open PySem L2
open PySem.AutoSeq1 PySem.MeetsSeq PySem.MeetsSeq2 PySem.MeetsSeq3

def top (i : Nat) : Stmt := (PySem.Challenge.pw_whatnext_k40_whole_slim_runs).main.body.getD i (.Pass ⟨0, 0, 0, 0⟩)

/-! ### two rules that the layer lacks: a list extended by a tuple, a text times a number -/
theorem ext_lt (l b : Addr) (us ws : Array Value) (n m : Nat) (dd : Option Addr) (sl : Array (Option Value))
    (h0 : ¬(!us.isEmpty && Builtin.List.listTooLong (us.size + ws.size)) = true) (h1 : us.size ≤ sizeLine) (h2 : us.size + ws.size ≤ sizeLine + 1) :
    Meets (Builtin.«list.extend» ⟨[.ref l, .ref b], []⟩) (fun _ R s => s.heap.get? l = some { cls := .type "list", dict := none, data := .seq us n, slots := #[] } ∧
      s.heap.get? b = some { cls := .type "tuple", dict := dd, data := .seq ws m, slots := sl } ∧
      R (.ok (.ret Value.none)) { s with heap := s.heap.update l (Obj.mapSeq fun x => x ++ ws), toks := s.toks }) := by
  refine .of_wp fun prog w A R s h => ?_
  obtain ⟨hp, g, d, tk, os⟩ := s
  obtain ⟨hl, hb, h⟩ := h
  have f1 := idx_int; have f2 := sub_tuple_tuple; have f3 := sub_list_list; have f4 := sub_tuple_list; have f5 := sub_list_tuple
  have hz' : (us ++ ws).size ≤ sizeLine + 1 := by
    rw [Array.size_append]
    exact h2
  wp_walk using (wpAny_updateSeq hl rfl (hz := h1) (_hz' := hz')), wpAny_loadPart' hl, wpAny_loadPart' hb
  exact ⟨_, rfl, h⟩
section
variable {X : Cx}
def rExtT (K : PySem.W.Frag) : V → List V → Hp → VK → Prop := fun x vs H Q => ∃ l b xs zs, x = .ref l ∧ vs = [.ref b] ∧ H l = some (.lst xs) ∧ SqT K H b zs ∧ xs.length + zs.length ≤ sizeLine ∧ Q .non (upd H l (.lst (xs ++ zs)))
theorem mt_extT : MtR X "list.extend" (rExtT X.K) := by
  intro pins s σ H x vs v us Q I rx rv h
  obtain ⟨l, b, xs, zs, rfl, rfl, hH, hB, hz, q⟩ := h
  cases rx
  obtain ⟨u, rfl, ru⟩ := rv.one
  cases ru
  obtain ⟨z, its, n, r, hl, e⟩ := I.lstM hH
  obtain ⟨its2, r2, ⟨⟨c2, d2, a2, s2⟩, e2, hc, n2, hd⟩, _⟩ := I.tuple hB
  cases hc
  cases hd
  have hl2 := r2.length
  have hsz : its.toArray.size + its2.toArray.size ≤ sizeLine := by
    rw [List.size_toArray, List.size_toArray]
    omega
  have hlong : ¬ (!its.toArray.isEmpty && Builtin.List.listTooLong (its.toArray.size + its2.toArray.size)) = true := by
    rw [notLongL hsz, Bool.and_false]
    exact Bool.false_ne_true
  refine call_meets F.slot_list_extend ⟨_, e, rfl⟩ F.entry_list_extend (F.args_list_extend_2 _ _)
    (ext_lt l b its.toArray its2.toArray n n2 d2 s2 hlong (by rw [List.size_toArray]; omega) (by omega)) ⟨e, e2, ?_⟩
  exact ⟨.non, _, I.lset (its' := its ++ its2) hH e (by simp) (r.append r2) (by rw [List.length_append]; exact hz), rfl, q⟩
end
end KB

namespace KB
open PySem L2

/-! ### terms as data -/
inductive Hd | num (z : Int) | nam (x : Str) | plus | less | tell | lett (x : Str) | iff | ask (f : Str)
inductive Tm | mk (h : Hd) (n : Nat) (k : Fin n → Tm)
def hs : Hd → Str
  | .num _ => "number" | .nam _ => "name" | .plus => "plus" | .less => "less" | .tell => "tell" | .lett _ => "let" | .iff => "if" | .ask _ => "ask"
/-- what stands at a, xs being its parts -/
def Lay (H : Hp) (a : Addr) : Hd → List V → Prop
  | .num z, xs => xs = [] ∧ H a = some (.tup [.str "number", .int z])
  | .nam x, xs => xs = [] ∧ H a = some (.tup [.str "name", .str x])
  | .plus, xs => xs.length = 2 ∧ H a = some (.tup (.str "plus" :: xs))
  | .less, xs => xs.length = 2 ∧ H a = some (.tup (.str "less" :: xs))
  | .tell, xs => xs.length = 1 ∧ H a = some (.tup (.str "tell" :: xs))
  | .lett x, xs => xs.length = 2 ∧ H a = some (.tup (.str "let" :: .str x :: xs))
  | .iff, xs => xs.length = 3 ∧ H a = some (.tup (.str "if" :: xs))
  | .ask f, xs => xs.length ≤ 4 ∧ ∃ p, H a = some (.tup [.str "ask", .str f, .ref p]) ∧ H p = some (.tup xs)
def Rfs {n : Nat} (ys : Fin n → Addr) : List V := List.ofFn fun i => V.ref (ys i)
def At (H : Hp) : Tm → Addr → Prop
  | .mk h n k, a => ∃ ys : Fin n → Addr, Lay H a h (Rfs ys) ∧ ∀ i, At H (k i) (ys i)
def cnt : Tm → Nat
  | .mk _ _ k => 1 + (List.ofFn fun i => cnt (k i)).sum
def places : Tm → List (List Int)
  | .mk _ n k => [] :: (List.ofFn fun i : Fin n => (places (k i)).map ((i.val : Int) :: ·)).flatten
def flatHd : Hd → Bool
  | .num _ | .nam _ | .plus | .less => true
  | _ => false
def simple : Tm → Bool
  | .mk h _ k => flatHd h && (List.ofFn fun i => simple (k i)).all id
def letsOf : Tm → List Str
  | .mk h _ k => (match h with | .lett x => [x] | _ => []) ++ (List.ofFn fun i => letsOf (k i)).flatten

theorem Lay.mono {H H' : Hp} (e : Same H H') {a : Addr} {h : Hd} {xs : List V} (l : Lay H a h xs) : Lay H' a h xs := by
  cases h with
  | ask f => obtain ⟨z, p, h1, h2⟩ := l; exact ⟨z, p, e _ _ h1, e _ _ h2⟩
  | _ => exact ⟨l.1, e _ _ l.2⟩
theorem At.mono {H H' : Hp} (e : Same H H') : ∀ {t : Tm} {a : Addr}, At H t a → At H' t a := by
  intro t
  induction t with
  | mk h n k ih =>
    rintro a ⟨ys, l, r⟩
    exact ⟨ys, l.mono e, fun i => ih i (r i)⟩
/-- every node begins with its word -/
theorem Lay.head {H : Hp} {a : Addr} {h : Hd} {xs : List V} (l : Lay H a h xs) : ∃ r, H a = some (.tup (.str (hs h) :: r)) := by
  cases h with
  | ask f => obtain ⟨z, p, h1, h2⟩ := l; exact ⟨_, h1⟩
  | _ => exact ⟨_, l.2⟩

theorem same_new {H : Hp} {p : Addr} (h : H p = none) (o : HO) : Same H (upd H p o) := fun b u q => by
  rw [upd_ne (ne_of_none q h)]
  exact q
theorem sIx_at {n d : Nat} {i : Int} (h0 : 0 ≤ i) (h : i.toNat ≤ n) : HT.sIx n d (some i) = i.toNat := by
  show (if i < 0 then (i + (n : Int)).toNat else min i.toNat n) = i.toNat
  rw [if_neg (by omega)]
  omega
theorem sIx_no {n d : Nat} : HT.sIx n d none = d := rfl
theorem not_whole {xs : List V} {i : Int} (h0 : 0 < i) (h : i.toNat ≤ xs.length) : ¬ (HT.sIx xs.length 0 (some i) = 0 ∧ HT.sIx xs.length xs.length none = xs.length) := by
  rw [sIx_at (by omega) h]
  omega
theorem cut_from {xs : List V} {i : Int} (h0 : 0 ≤ i) (h : i.toNat ≤ xs.length) : cutV xs (some i) none = xs.drop i.toNat := by
  unfold cutV
  rw [sIx_at h0 h, sIx_no, List.take_of_length_le (by rw [List.length_drop]; exact Nat.le_refl _)]
theorem len1 {α : Type} {x : α} {r : List α} : 1 ≤ (x :: r).length := Nat.succ_le_succ (Nat.zero_le _)
theorem len2 {α : Type} {x y : α} {r : List α} : 2 ≤ (x :: y :: r).length := Nat.succ_le_succ len1
theorem cut1 {x : V} {r : List V} : cutV (x :: r) (some 1) none = r := cut_from (i := 1) (by decide) len1
theorem cut2 {x y : V} {r : List V} : cutV (x :: y :: r) (some 2) none = r := cut_from (i := 2) (by decide) len2
theorem itT {b : Bool} {A B : Prop} (e : b = true) (h : A) : if b = true then A else B := by
  rw [if_pos e]
  exact h
theorem itF {b : Bool} {A B : Prop} (e : b = false) (h : B) : if b = true then A else B := by
  rw [if_neg (by rw [e]; exact Bool.false_ne_true)]
  exact h
theorem at0 {x : V} {r : List V} : atI (x :: r) 0 = some x := at_of (j := 0) rfl rfl
theorem at1 {x y : V} {r : List V} : atI (x :: y :: r) 1 = some y := at_of (j := 1) rfl rfl
theorem at2 {x y z : V} {r : List V} : atI (x :: y :: z :: r) 2 = some z := at_of (j := 2) rfl rfl
theorem sz {n : Nat} (h : n ≤ 100000) : n ≤ sizeLine := Nat.le_trans h (by decide)
/-- the facts of the top -/
structure Ref (K : PySem.W.Frag) (mg : Str → Option Value) (x : Str) (f : Addr) (fd : FuncData) (ps : List Str) : Prop where
  m : mg x = some (.ref f)
  k : PySem.W.keepIn K (.ref f) = true
  b : Binds K fd ps []
structure Txt (K : PySem.W.Frag) (mg : Str → Option Value) : Prop where
  m_len : mg "len" = none
  m_isinstance : mg "isinstance" = none
  m_int : mg "int" = none
  m_tuple : mg "tuple" = none
  m_list : mg "list" = none
  m_str : mg "str" = none
  m_bool : mg "bool" = none
  m_max : mg "max" = none
  m_all : mg "all" = none
  m_dict : mg "dict" = none
  m_range : mg "range" = none
  m_enumerate : mg "enumerate" = none
  m_reversed : mg "reversed" = none

section
variable {P : Program} {w : World} {K : PySem.W.Frag} {mg : Str → Option Value} {base : Heap}
/-! ### parts_of and _law_parts -/
def spParts : Sp := fun vs H Q _ => ∃ a h xs, vs = [.ref a] ∧ Lay H a h xs ∧ ∀ p H', Same H H' → H' p = some (.tup xs) → Q (.ref p) H'
end
end KB

namespace KB
open PySem L2

/-! ### rules and small facts -/
def repS (z : Str) (k : Int) : Str := ⟨(List.replicate k.toNat z.cps).foldl (· ++ ·) #[]⟩
def rMulS : R2 := fun x y H Q => ∃ z k, x = .str z ∧ y = .int k ∧ 1 ≤ k ∧ k ≤ 1000 ∧ 1 ≤ z.length ∧ z.length ≤ 1000 ∧ Q (.str (repS z k)) H
theorem repS_one (z : Str) : repS z 1 = z := by
  unfold repS
  show (⟨#[] ++ z.cps⟩ : Str) = z
  rw [Array.empty_append]
theorem size_rep (xs : Array Nat) : ∀ (k : Nat) (acc : Array Nat), ((List.replicate k xs).foldl (· ++ ·) acc).size = acc.size + k * xs.size
  | 0, acc => by
    rw [Nat.zero_mul]
    rfl
  | k + 1, acc => by
    rw [List.replicate_succ, List.foldl_cons, size_rep xs k, Array.size_append, Nat.succ_mul]
    omega
theorem op_mul_str {X : Cx} : OpR X (binaryOp .Mult) rMulS := by
  intro pins s σ H x y v u Q I rx ry h
  obtain ⟨z, k, rfl, rfl, h1, h2, h3, h4, q⟩ := h
  obtain ⟨t, rfl⟩ := rx
  obtain ⟨t', rfl⟩ := ry
  refine PySem.P.mul_str ?_ ?_ ?_ ?_
  · rw [decide_eq_false (by omega), decide_eq_false (by omega)]
    rfl
  · intro _ _
    have e1 : (1000 : Int) * k ≤ 1000000 := by omega
    have e2 : (9223372036854775807 : Int) / k ≥ 9223372036854775 := by
      have e3 : (9223372036854775807 : Int) / k ≥ 9223372036854775807 / 1000 := by
        refine Int.le_ediv_of_mul_le (by omega) ?_
        have : (9223372036854775807 / 1000 : Int) = 9223372036854775 := by decide
        rw [this]
        have : (9223372036854775 : Int) * k ≤ 9223372036854775 * 1000 := Int.mul_le_mul_of_nonneg_left h2 (by decide)
        omega
      have : (9223372036854775807 / 1000 : Int) = 9223372036854775 := by decide
      omega
    have e4 : ((2 : Int) ^ 63 - 1) = 9223372036854775807 := by decide
    rw [e4]
    omega
  · intro _ _
    have e : z.length * k.toNat ≤ 1000 * 1000 := Nat.mul_le_mul h4 (by omega)
    exact decide_eq_false (by show ¬ _ > sizeLine; exact Nat.not_lt.mpr (Nat.le_trans e (by decide)))
  · rw [if_neg (by omega)]
    have hz : (z.length == 0) = false := by
      rw [beq_eq_false_iff_ne]
      omega
    by_cases hk : k = 1
    · subst hk
      rw [if_pos (by rfl)]
      rw [repS_one] at q
      exact ⟨.str z, H, I, ⟨t, rfl⟩, q⟩
    · have hk2 : (k == 1) = false := by
        rw [beq_eq_false_iff_ne]
        exact hk
      rw [if_neg (by rw [hk2, hz]; decide)]
      have e : z.length * k.toNat ≤ 1000 * 1000 := Nat.mul_le_mul h4 (by omega)
      have e2 := size_rep z.cps k.toNat #[]
      refine ⟨?_, .str (repS z k), H, I.tok _, ⟨_, rfl⟩, q⟩
      show (List.foldl (fun x1 x2 => x1 ++ x2) #[] (List.replicate k.toNat z.cps)).size ≤ sizeLine
      rw [e2, Nat.mul_comm]
      show 0 + z.length * k.toNat ≤ sizeLine
      rw [Nat.zero_add]
      exact Nat.le_trans e (by decide)

/-! ### stacks of terms -/
def Stk (H : Hp) : List V → List Tm → Prop
  | [], [] => True
  | v :: vs, t :: ts => (∃ b, v = .ref b ∧ At H t b) ∧ Stk H vs ts
  | _, _ => False
theorem Stk.mono {H H' : Hp} (e : Same H H') : ∀ {vs : List V} {ts : List Tm}, Stk H vs ts → Stk H' vs ts
  | [], [], _ => trivial
  | _ :: _, _ :: _, h => ⟨let ⟨b, e1, h1⟩ := h.1; ⟨b, e1, h1.mono e⟩, Stk.mono e h.2⟩
  | [], _ :: _, h => h.elim
  | _ :: _, [], h => h.elim
theorem Stk.app {H : Hp} : ∀ {vs us : List V} {ts ss : List Tm}, Stk H vs ts → Stk H us ss → Stk H (vs ++ us) (ts ++ ss)
  | [], _, [], _, _, k => k
  | _ :: _, _, _ :: _, _, h, k => ⟨h.1, Stk.app h.2 k⟩
  | [], _, _ :: _, _, h, _ => h.elim
  | _ :: _, _, [], _, h, _ => h.elim
theorem Stk.rev {H : Hp} : ∀ {vs : List V} {ts : List Tm}, Stk H vs ts → Stk H vs.reverse ts.reverse
  | [], [], _ => trivial
  | v :: vs, t :: ts, h => by
    rw [List.reverse_cons, List.reverse_cons]
    exact Stk.app (Stk.rev h.2) ⟨h.1, trivial⟩
  | [], _ :: _, h => h.elim
  | _ :: _, [], h => h.elim
theorem Stk.len {H : Hp} : ∀ {vs : List V} {ts : List Tm}, Stk H vs ts → vs.length = ts.length
  | [], [], _ => rfl
  | _ :: _, _ :: _, h => congrArg (· + 1) (Stk.len h.2)
  | [], _ :: _, h => h.elim
  | _ :: _, [], h => h.elim
theorem Stk.fn {H : Hp} : ∀ {n : Nat} {ys : Fin n → Addr} {k : Fin n → Tm}, (∀ i, At H (k i) (ys i)) → Stk H (Rfs ys) (List.ofFn k)
  | 0, _, _, _ => trivial
  | n + 1, ys, k, h => by
    unfold Rfs
    rw [List.ofFn_succ, List.ofFn_succ]
    exact ⟨⟨_, rfl, h 0⟩, Stk.fn (ys := fun i => ys i.succ) (k := fun i => k i.succ) fun i => h i.succ⟩
def cnts (ts : List Tm) : Nat := (ts.map cnt).sum
theorem cnts_app (a b : List Tm) : cnts (a ++ b) = cnts a + cnts b := by
  unfold cnts
  rw [List.map_append, List.sum_append]
theorem cnts_rev (a : List Tm) : cnts a.reverse = cnts a := by
  induction a with
  | nil => rfl
  | cons x r ih =>
    rw [List.reverse_cons, cnts_app, ih]
    unfold cnts
    simp only [List.map_cons, List.map_nil, List.sum_cons, List.sum_nil]
    omega
theorem cnt_mk {h : Hd} {n : Nat} {k : Fin n → Tm} : cnt (.mk h n k) = 1 + cnts (List.ofFn k) := by
  show 1 + (List.ofFn fun i => cnt (k i)).sum = 1 + ((List.ofFn k).map cnt).sum
  rw [List.map_ofFn]
  rfl
theorem cnts_cons {t : Tm} {r : List Tm} : cnts (t :: r) = cnt t + cnts r := rfl
theorem cnt_pos : ∀ t : Tm, 1 ≤ cnt t
  | .mk _ _ _ => by rw [cnt_mk]; omega
theorem len_cnts : ∀ ts : List Tm, ts.length ≤ cnts ts
  | [] => Nat.le_refl _
  | t :: r => by
    have h1 := cnt_pos t
    have h2 := len_cnts r
    rw [cnts_cons, List.length_cons]
    omega

section
variable {P : Program} {w : World} {K : PySem.W.Frag} {mg : Str → Option Value} {base : Heap}
theorem same_mut {H H' : Hp} {p : Addr} {o : HO} (e : Same H H') (h : H p = none) : Same H (upd H' p o) := fun a u ha => by
  rw [upd_ne (ne_of_none ha h)]
  exact e _ _ ha
/-- a list rewritten leaves the terms -/
theorem Lay.put {H : Hp} {l : Addr} {xs ys : List V} (hl : H l = some (.lst xs)) {a : Addr} {h : Hd} {us : List V} (q : Lay H a h us) : Lay (upd H l (.lst ys)) a h us := by
  have go : ∀ {b : Addr} {zs : List V}, H b = some (.tup zs) → upd H l (.lst ys) b = some (.tup zs) := fun {b zs} z => by
    rw [upd_ne (ne_of z hl (by intro e; cases e))]
    exact z
  cases h with
  | ask f => obtain ⟨z, p, h1, h2⟩ := q; exact ⟨z, p, go h1, go h2⟩
  | _ => exact ⟨q.1, go q.2⟩
theorem At.put {H : Hp} {l : Addr} {xs ys : List V} (hl : H l = some (.lst xs)) : ∀ {t : Tm} {a : Addr}, At H t a → At (upd H l (.lst ys)) t a := by
  intro t
  induction t with
  | mk h n k ih =>
    rintro a ⟨zs, q, r⟩
    exact ⟨zs, q.put hl, fun i => ih i (r i)⟩
theorem Stk.put {H : Hp} {l : Addr} {xs ys : List V} (hl : H l = some (.lst xs)) : ∀ {vs : List V} {ts : List Tm}, Stk H vs ts → Stk (upd H l (.lst ys)) vs ts
  | [], [], _ => trivial
  | _ :: _, _ :: _, h => ⟨let ⟨b, e1, h1⟩ := h.1; ⟨b, e1, h1.put hl⟩, Stk.put hl h.2⟩
  | [], _ :: _, h => h.elim
  | _ :: _, [], h => h.elim
end
end KB

namespace KB
open PySem L2

/-! ### what leaves the tuples -/
def TK (H H' : Hp) : Prop := ∀ a xs, H a = some (.tup xs) → H' a = some (.tup xs)
theorem TK.refl (H : Hp) : TK H H := fun _ _ h => h
theorem TK.trans {H H1 H2 : Hp} (a : TK H H1) (b : TK H1 H2) : TK H H2 := fun x o h => b x o (a x o h)
theorem tk_same {H H' : Hp} (e : Same H H') : TK H H' := fun a _ h => e a _ h
theorem tk_put {H : Hp} {l : Addr} {xs : List V} {o : HO} (hl : H l = some (.lst xs)) : TK H (upd H l o) := fun a zs z => by
  rw [upd_ne (ne_of z hl (by intro e; cases e))]
  exact z
theorem Lay.tk {H H' : Hp} (e : TK H H') {a : Addr} {h : Hd} {xs : List V} (l : Lay H a h xs) : Lay H' a h xs := by
  cases h with
  | ask f => obtain ⟨z, p, h1, h2⟩ := l; exact ⟨z, p, e _ _ h1, e _ _ h2⟩
  | _ => exact ⟨l.1, e _ _ l.2⟩
theorem At.tk {H H' : Hp} (e : TK H H') : ∀ {t : Tm} {a : Addr}, At H t a → At H' t a := by
  intro t
  induction t with
  | mk h n k ih =>
    rintro a ⟨ys, l, r⟩
    exact ⟨ys, l.tk e, fun i => ih i (r i)⟩

theorem Stk.tk {H H' : Hp} (e : TK H H') : ∀ {vs : List V} {ts : List Tm}, Stk H vs ts → Stk H' vs ts
  | [], [], _ => trivial
  | _ :: _, _ :: _, h => ⟨let ⟨b, e1, h1⟩ := h.1; ⟨b, e1, h1.tk e⟩, Stk.tk e h.2⟩
  | [], _ :: _, h => h.elim
  | _ :: _, [], h => h.elim
theorem Stk.get {H : Hp} : ∀ {vs : List V} {ts : List Tm} {i : Nat} {v : V}, Stk H vs ts → vs[i]? = some v → ∃ t, ts[i]? = some t ∧ ∃ b, v = .ref b ∧ At H t b
  | [], [], _, _, _, e => by simp at e
  | x :: vs, t :: ts, 0, v, h, e => ⟨t, rfl, by
    have e' : x = v := by simpa using e
    subst e'
    exact h.1⟩
  | x :: vs, t :: ts, i + 1, v, h, e => by
    obtain ⟨b, h1, h2⟩ := Stk.get (i := i) (v := v) h.2 (by simpa using e)
    exact ⟨b, by simpa using h1, h2⟩
  | [], _ :: _, _, _, h, _ => h.elim
  | _ :: _, [], _, _, h, _ => h.elim

/-! ### two lists, item by item -/
def All2 {α : Type} (R : α → V → Prop) : List α → List V → Prop
  | [], [] => True
  | a :: as, v :: vs => R a v ∧ All2 R as vs
  | _, _ => False
theorem All2.imp {α : Type} {R S : α → V → Prop} (e : ∀ a v, R a v → S a v) : ∀ {as : List α} {vs : List V}, All2 R as vs → All2 S as vs
  | [], [], _ => trivial
  | _ :: _, _ :: _, h => ⟨e _ _ h.1, All2.imp e h.2⟩
  | [], _ :: _, h => h.elim
  | _ :: _, [], h => h.elim
theorem All2.app {α : Type} {R : α → V → Prop} : ∀ {as bs : List α} {vs ws : List V}, All2 R as vs → All2 R bs ws → All2 R (as ++ bs) (vs ++ ws)
  | [], _, [], _, _, k => k
  | _ :: _, _, _ :: _, _, h, k => ⟨h.1, All2.app h.2 k⟩
  | [], _, _ :: _, _, h, _ => h.elim
  | _ :: _, _, [], _, h, _ => h.elim
theorem All2.len {α : Type} {R : α → V → Prop} : ∀ {as : List α} {vs : List V}, All2 R as vs → vs.length = as.length
  | [], [], _ => rfl
  | _ :: _, _ :: _, h => congrArg (· + 1) (All2.len h.2)
  | [], _ :: _, h => h.elim
  | _ :: _, [], h => h.elim
theorem All2.get {α : Type} {R : α → V → Prop} : ∀ {as : List α} {vs : List V} {i : Nat} {v : V}, All2 R as vs → vs[i]? = some v → ∃ a, as[i]? = some a ∧ R a v
  | [], [], _, _, _, e => by simp at e
  | a :: as, x :: vs, 0, v, h, e => ⟨a, rfl, by
    have e' : x = v := by simpa using e
    subst e'
    exact h.1⟩
  | a :: as, x :: vs, i + 1, v, h, e => by
    obtain ⟨b, h1, h2⟩ := All2.get (i := i) (v := v) h.2 (by simpa using e)
    exact ⟨b, by simpa using h1, h2⟩
  | [], _ :: _, _, _, h, _ => h.elim
  | _ :: _, [], _, _, h, _ => h.elim

end KB

namespace KB
open PySem L2

/-! ### books -/
abbrev Er := Str × List Str × Tm
def ErV (H : Hp) (e : Er) (v : V) : Prop := ∃ q r b, v = .ref q ∧ H q = some (.tup [.str e.1, .ref r, .ref b]) ∧ H r = some (.tup (e.2.1.map V.str)) ∧ At H e.2.2 b
theorem ErV.tk {H H' : Hp} (t : TK H H') {e : Er} {v : V} (h : ErV H e v) : ErV H' e v :=
  let ⟨q, r, b, e1, h1, h2, h3⟩ := h; ⟨q, r, b, e1, t _ _ h1, t _ _ h2, h3.tk t⟩
def BkAt (H : Hp) (es : List Er) (vs : List V) (p : Addr) : Prop := H p = some (.tup vs) ∧ All2 (ErV H) es vs
theorem BkAt.tk {H H' : Hp} (t : TK H H') {es : List Er} {vs : List V} {p : Addr} (h : BkAt H es vs p) : BkAt H' es vs p := ⟨t _ _ h.1, h.2.imp fun _ _ z => z.tk t⟩
theorem All2.map {α β : Type} {R : β → V → Prop} {f : α → β} : ∀ {as : List α} {vs : List V}, All2 (fun a v => R (f a) v) as vs → All2 R (as.map f) vs
  | [], [], _ => trivial
  | _ :: _, _ :: _, h => ⟨h.1, All2.map h.2⟩
  | [], _ :: _, h => h.elim
  | _ :: _, [], h => h.elim

section
variable {P : Program} {w : World} {K : PySem.W.Frag} {mg : Str → Option Value} {base : Heap}
theorem mem_of_get {α : Type} {l : List α} {i : Nat} {a : α} (h : l[i]? = some a) : a ∈ l := List.mem_of_getElem? h
end
end KB

namespace KB
open PySem L2

theorem catA_of {K : PySem.W.Frag} {H : Hp} {a b : Addr} {xs ys : List V} {Q : VK} (ha : H a = some (.tup xs)) (hb : H b = some (.tup ys)) (hl : xs.length + ys.length ≤ 100000)
    (q : ∀ p H', Same H H' → H' p = some (.tup (xs ++ ys)) → Q (.ref p) H') : rCatA K (.ref a) (.ref b) H Q := by
  refine ⟨a, b, xs, ys, rfl, rfl, SqT.of ha, SqT.of hb, sz hl, fun z => ?_, fun _ z => ?_, fun _ _ p hp => ?_⟩
  · refine q b H (Same.refl H) ?_
    rw [z]
    exact hb
  · refine q a H (Same.refl H) ?_
    rw [z, List.append_nil]
    exact ha
  · exact q p _ (same_new hp _) upd_same
theorem cnt_mem {t : Tm} {ts : List Tm} (h : t ∈ ts) : cnt t ≤ cnts ts := by
  induction ts with
  | nil => cases h
  | cons a r ih =>
    rw [cnts_cons]
    rcases List.mem_cons.mp h with z | z
    · subst z
      omega
    · have := ih z
      omega
theorem cnts_take (ts : List Tm) (i : Nat) : cnts (ts.take i) ≤ cnts ts := by
  have e : cnts ts = cnts (ts.take i) + cnts (ts.drop i) := by rw [← cnts_app, List.take_append_drop]
  omega
def letsL (ts : List Tm) : List Str := (ts.map letsOf).flatten
def hdLets : Hd → List Str
  | .lett x => [x]
  | _ => []
theorem hdLets_le (h : Hd) : (hdLets h).length ≤ 1 := by
  cases h with
  | lett x => exact Nat.le_refl 1
  | _ => exact Nat.zero_le 1
theorem lets_mk {h : Hd} {n : Nat} {k : _root_.Fin n → Tm} : letsOf (.mk h n k) = hdLets h ++ letsL (List.ofFn k) := by
  have e : (List.ofFn fun i => letsOf (k i)) = (List.ofFn k).map letsOf := (List.map_ofFn ..).symm
  unfold letsL
  rw [← e]
  cases h <;> rfl
theorem lets_len : ∀ t : Tm, (letsOf t).length ≤ cnt t := by
  have go : ∀ ts : List Tm, (∀ t ∈ ts, (letsOf t).length ≤ cnt t) → (letsL ts).length ≤ cnts ts := by
    intro ts
    induction ts with
    | nil => intro _; exact Nat.le_refl _
    | cons a r ih =>
      intro h
      have h1 := h a List.mem_cons_self
      have h2 := ih fun u hu => h u (List.mem_cons_of_mem _ hu)
      have e : letsL (a :: r) = letsOf a ++ letsL r := by
        unfold letsL
        rw [List.map_cons, List.flatten_cons]
      rw [e, List.length_append, cnts_cons]
      omega
  intro t
  induction t with
  | mk h n k ih =>
    have := go (List.ofFn k) fun t ht => by
      obtain ⟨i, rfl⟩ := List.mem_ofFn.mp ht
      exact ih i
    rw [lets_mk, cnt_mk, List.length_append]
    have : (hdLets h).length ≤ 1 := hdLets_le h
    omega
theorem letsL_take {ts : List Tm} {i : Nat} {t : Tm} (h : ts[i]? = some t) : letsL (ts.take (i + 1)) = letsL (ts.take i) ++ letsOf t := by
  obtain ⟨hi, he⟩ := List.getElem?_eq_some_iff.mp h
  unfold letsL
  rw [List.take_succ_eq_append_getElem hi, List.map_append, List.flatten_append, he]
  simp

end KB

namespace KB
open PySem L2

/-! ### words as the program has them -/
def keptW : List Str := ["let", "be", "in", "tell", "if", "then", "else", "home", "zyzzyva", "xja", "xjb", "xjc", "xjd", "xje", "xjf", "xva", "xvb", "xvc", "xvd", "xve", "xvf"]
/-- the words that idle posts get -/
def idleW : List Str := ["xja", "xjb", "xjc", "xjd", "xje", "xjf", "xva", "xvb", "xvc", "xvd", "xve", "xvf"]
def small (c : Nat) : Bool := decide (97 ≤ c) && decide (c ≤ 122)
def isW (z : Str) : Bool := !keptW.contains z && (decide (1 ≤ z.length) && decide (z.length ≤ 8)) && z.cps.toList.all small
theorem isW_ok {z : Str} (h : isW z = true) : PySem.PyData.strOk z = true := by
  unfold isW at h
  rw [Bool.and_eq_true] at h
  have h2 := h.2
  rw [List.all_eq_true] at h2
  unfold PySem.PyData.strOk
  rw [← Array.all_toList, List.all_eq_true]
  intro c hc
  have := h2 c hc
  unfold small at this
  rw [Bool.and_eq_true] at this
  have := of_decide_eq_true this.2
  exact decide_eq_true (by omega)
def isV (z : Str) : Bool := isW z || idleW.contains z
theorem isV_of {z : Str} (h : isW z = true) : isV z = true := by
  unfold isV
  rw [h]
  rfl
theorem idle_ok : ∀ z ∈ idleW, PySem.PyData.strOk z = true := by decide +kernel
theorem isV_ok {z : Str} (h : isV z = true) : PySem.PyData.strOk z = true := by
  unfold isV at h
  rcases Bool.or_eq_true_iff.mp h with h | h
  · exact isW_ok h
  · exact idle_ok z (by simpa using h)
theorem idle_not : ∀ z ∈ idleW, isW z = false := by decide +kernel
theorem isW_len {z : Str} (h : isW z = true) : z.length ≤ 8 := by
  unfold isW at h
  rw [Bool.and_eq_true, Bool.and_eq_true, Bool.and_eq_true] at h
  exact of_decide_eq_true h.1.2.2
/-! ### the tape and lists of words -/
def But1 (tp : Addr) (H H' : Hp) : Prop := ∀ b o, b ≠ tp → H b = some o → H' b = some o
def Tp (H : Hp) (tp : Addr) : Prop := ∃ z, H tp = some (.lst [.int z])
theorem But1.refl (tp : Addr) (H : Hp) : But1 tp H H := fun _ _ _ h => h
theorem But1.trans {tp : Addr} {H H1 H2 : Hp} (a : But1 tp H H1) (b : But1 tp H1 H2) : But1 tp H H2 := fun x o n h => b x o n (a x o n h)
theorem but_same {tp : Addr} {H H' : Hp} (e : Same H H') : But1 tp H H' := fun b o _ h => e b o h
theorem But1.tk {tp : Addr} {H H' : Hp} (ht : Tp H tp) (e : But1 tp H H') : TK H H' := fun a xs h => by
  obtain ⟨z, hz⟩ := ht
  exact e a _ (ne_of h hz (by intro q; cases q)) h
/-- a list of words -/
def Wls (H : Hp) (a : Addr) (xs : List Str) : Prop := H a = some (.lst (xs.map V.str)) ∧ ∀ x ∈ xs, isW x = true
theorem wls_tp {H : Hp} {a tp : Addr} {xs : List Str} (h : H a = some (.lst (xs.map V.str))) (t : Tp H tp) : a ≠ tp := by
  rintro rfl
  obtain ⟨z, hz⟩ := t
  rw [h] at hz
  have e := HO.lst.inj (Option.some.inj hz)
  cases xs with
  | nil => cases e
  | cons x r =>
    rw [List.map_cons] at e
    cases (List.cons.inj e).1
theorem Wls.but {tp a : Addr} {H H' : Hp} {xs : List Str} (e : But1 tp H H') (t : Tp H tp) (h : Wls H a xs) : Wls H' a xs := ⟨e _ _ (wls_tp h.1 t) h.1, h.2⟩
theorem dp_strs {K : PySem.W.Frag} {H : Hp} : ∀ xs : List Str, DpAll K H (xs.map V.str) (xs.map PyData.str)
  | [] => .nil
  | x :: r => .cons (.str x) (dp_strs r)
theorem lay_strs : ∀ {xs : List Str}, (∀ x ∈ xs, PySem.PyData.strOk x = true) → PySem.PyData.canLayAll0 (xs.map PyData.str) = true
  | [], _ => rfl
  | x :: r, h => by
    show (PySem.PyData.strOk x && PySem.PyData.canLayAll0 (r.map PyData.str)) = true
    rw [h x List.mem_cons_self, lay_strs fun y hy => h y (List.mem_cons_of_mem _ hy)]
    rfl
theorem shaped_of {d : PyData} (h1 : d.canLay0 = true) (h2 : d.depth ≤ 64) : SeqAt.shaped d = true := Bool.and_eq_true_iff.mpr ⟨h1, decide_eq_true h2⟩
theorem depth_strs : ∀ xs : List Str, PySem.PyData.depthAll (xs.map PyData.str) = 0
  | [] => rfl
  | x :: r => by
    show max (PySem.PyData.depth (.str x)) (PySem.PyData.depthAll (r.map PyData.str)) = 0
    rw [depth_strs r]
    rfl
theorem shaped_strs {xs : List Str} (h : ∀ x ∈ xs, isW x = true) : SeqAt.shaped (.list (xs.map PyData.str)) = true := by
  refine shaped_of (lay_strs fun x hx => isW_ok (h x hx)) ?_
  show PySem.PyData.depthAll (xs.map PyData.str) + 1 ≤ 64
  rw [depth_strs]
  decide
theorem eqv_nil (xs : List Str) : PyData.eqv (.list (xs.map PyData.str)) (.list []) = xs.isEmpty := by
  cases xs <;> rfl

section
variable {P : Program} {w : World} {K : PySem.W.Frag} {mg : Str → Option Value} {base : Heap}
/-! ### _law_cell_at -/
def spCell (K : PySem.W.Frag) : Sp := fun vs H Q _ => ∃ (a : Addr) (ns : List Int) (k : Int), vs = [.ref a, .int k] ∧ SqL K H a (ns.map V.int) ∧ 0 ≤ k ∧ ∀ z, Q (.int z) H
abbrev s_law_cell_at : Stmt := top 21
theorem scLcell_at : FnScope ["script", "k"] ["script", "k"] (defScope s_law_cell_at) := ⟨rfl, rfl, rfl, by decide +kernel, rfl, by decide +kernel, by decide +kernel⟩
theorem ok_cell (T : Txt K mg) {f : Addr} {fd : FuncData} (F : Fun K "_law_cell_at" "_law_cell_at" s_law_cell_at f fd) : FnOk P w K mg base CX0 1 f fd ["script", "k"] (spCell K) := by
  refine F.ok scLcell_at (fun vs H Q E h => ?_) (fun cdv A outer s H vs Q E hr h => ?_)
  · obtain ⟨a, ns, k, rfl, _⟩ := h
    rfl
  obtain ⟨a, ns, k, rfl, hS, h0, q⟩ := h
  refine ⟨_, (pss_cons (ps_if (pt_cmpR op_lt (pv 1) (pe_callB call_len_seq (by rfl) T.m_len PySem.boot_len (pa_cons (pv 0) pa_nil)) (nomark _)) (pss_one (ps_ret (pe_ix ix_list (pv 0) (pv 1) (fun _ _ => rfl)))) pss_nil)
    (pss_one (ps_ret pe_int))), ?_⟩
  refine ⟨_, rfl, _, rfl, a, _, rfl, .inl hS, _, _, rfl, rfl, _, rfl, ?_⟩
  refine ite2 (fun c => ?_) (fun c => ?_)
  · have c' : k < (((ns.map V.int).length : Nat) : Int) := of_decide_eq_true c
    rw [List.length_map] at c'
    have hk : k.toNat < ns.length := by omega
    refine ⟨_, rfl, _, rfl, a, _, _, .int ns[k.toNat], rfl, rfl, hS, at_of (j := k.toNat) (by omega) ?_, q _⟩
    rw [List.getElem?_map, List.getElem?_eq_getElem hk]
    rfl
  · exact q 0
/-! ### _law_tape -/
def spTape (K : PySem.W.Frag) : Sp := fun vs H Q _ => ∃ (a : Addr) (ns : List Int) (k : Int), vs = [.ref a, .int k] ∧ SqL K H a (ns.map V.int) ∧ 0 ≤ k ∧ k ≤ 1000 ∧ ∀ p z, H p = none → Q (.ref p) (upd H p (.lst [.int z]))
abbrev s_law_tape : Stmt := top 22
theorem scLtape : FnScope ["script", "k", "cell", "p", "one", "found", "turn"] ["script", "k"] (defScope s_law_tape) := ⟨rfl, rfl, rfl, by decide +kernel, rfl, by decide +kernel, by decide +kernel⟩
theorem ok_tape (T : Txt K mg) {f g : Addr} {fd gd : FuncData} (F : Fun K "_law_tape" "_law_tape" s_law_tape f fd) (G_law_cell_at : FnOk P w K mg base CX0 1 g gd ["script", "k"] (spCell K)) (R_law_cell_at : Ref K mg "_law_cell_at" g gd ["script", "k"]) : FnOk P w K mg base CX0 2 f fd ["script", "k"] (spTape K) := by
  refine F.ok scLtape (fun vs H Q E h => ?_) (fun cdv A outer s H vs Q E hr h => ?_)
  · obtain ⟨a, ns, k, rfl, _⟩ := h
    rfl
  obtain ⟨a, ns, k, rfl, hS, h0, h1, q⟩ := h
  refine ⟨_, (pss_cons (ps_set (i := 2) scLtape.nd rfl (Or.inl rfl) (pe_call G_law_cell_at hr rfl R_law_cell_at.m R_law_cell_at.k R_law_cell_at.b .nil pass0 (pa_cons (pv 0) (pa_cons (pv 1) pa_nil))))
    (pss_cons (ps_if (pt_cmpR op_eq (pv 2) pe_int (nomark _)) (pss_one (ps_ret (pe_lst (pa_cons pe_int pa_nil)))) pss_nil)
    (pss_cons (ps_if (pt_cmpR op_ge (pv 2) (pe_op op_pow pe_int pe_int) (nomark _)) (pss_one (ps_ret (pe_lst (pa_cons (pe_op op_sub (pv 2) (pe_op op_pow pe_int pe_int)) pa_nil)))) pss_nil)
    (pss_cons (ps_set (i := 3) scLtape.nd rfl (Or.inl rfl) pe_int)
    (pss_cons (ps_set (i := 4) scLtape.nd rfl (Or.inl rfl) (pe_op op_mod (pe_op op_add (pe_op op_add (pe_op op_mul (pv 2) pe_int) (pe_op op_mul pe_int (pv 1))) pe_int) (pv 3)))
    (pss_cons (ps_set (i := 5) scLtape.nd rfl (Or.inl rfl) (pv 4))
    (pss_cons (ps_for PassesOwn.never rfl (pi_range1 rfl T.m_range (pa_cons pe_int pa_nil)) (pg_name (i := 6) scLtape.nd rfl (Or.inl rfl)) (pss_cons (ps_set (i := 4) scLtape.nd rfl (Or.inl rfl) (pe_op op_mod (pe_op op_add (pe_op op_add (pe_op op_add (pe_op op_mul (pv 4) (pv 4)) (pe_op op_mul pe_int (pv 6))) (pv 2)) pe_int) (pv 3)))
    (pss_one (ps_set (i := 5) scLtape.nd rfl (Or.inl rfl) (pe_op op_add (pe_op op_mul (pv 5) (pv 3)) (pv 4))))))
    (pss_one (ps_ret (pe_lst (pa_cons (pv 5) pa_nil))))))))))), ?_⟩
  have b1 : ∀ x : Int, 0 ≤ x → x < 2305843009213693951 → -(2 ^ 64) < x ∧ x < 2 ^ 64 := fun x h1 h2 => by
    have e : (2 : Int) ^ 64 = 18446744073709551616 := by decide
    rw [e]
    omega
  refine ⟨_, rfl, _, rfl, a, ns, k, rfl, hS, h0, fun z => ?_⟩
  refine ⟨_, rfl, rfl, _, rfl, ?_⟩
  refine ite2 (fun c => ?_) (fun c => ?_)
  · exact ⟨sz (by show 1 ≤ 100000; decide), fun p hp => q p 0 hp⟩
  refine ⟨_, rfl, _, _, rfl, rfl, ⟨by decide, by decide, by decide⟩, _, _, rfl, rfl, _, rfl, ?_⟩
  refine ite2 (fun c => ?_) (fun c => ?_)
  · exact ⟨_, rfl, _, _, rfl, rfl, ⟨by decide, by decide, by decide⟩, _, _, rfl, rfl, sz (by show 1 ≤ 100000; decide), fun p hp => q p _ hp⟩
  refine ⟨_, rfl, _, _, rfl, rfl, .inr ⟨by decide, by decide⟩, _, rfl, _, _, rfl, rfl, .inl ⟨by decide, by decide⟩, _, _, rfl, rfl, _, _, rfl, rfl, _, rfl, _, _, rfl, rfl, (by show (0 : Int) < 2305843009213693951; decide), ?_⟩
  refine ⟨_, rfl, ?_⟩
  refine ⟨20, rfl, by decide, by decide, for_range (lo := 0) (n := 20) (fun i σ H' => ∃ one found o, σ = [some (.ref a), some (.int k), some (.int z), some (.int 2305843009213693951), some (.int one), some (.int found), o] ∧ H' = H ∧ 0 ≤ one ∧ one < 2305843009213693951) ?_ ?_ ?_⟩
  · exact ⟨_, _, _, rfl, rfl, Int.emod_nonneg _ (by decide), Int.emod_lt_of_pos _ (by decide)⟩
  · rintro i σ H' hi ⟨one, found, o, rfl, rfl, g0, g1⟩
    refine ⟨_, rfl, _, rfl, _, _, rfl, rfl, .inl (b1 one g0 g1), _, rfl, _, _, rfl, rfl, .inl ⟨by decide, by decide⟩, _, _, rfl, rfl, _, rfl, _, _, rfl, rfl, _, _, rfl, rfl, _, rfl, _, _, rfl, rfl, (by show (0 : Int) < 2305843009213693951; decide), ?_⟩
    refine ⟨_, rfl, _, rfl, _, _, rfl, rfl, .inr ⟨by decide, by decide⟩, _, rfl, _, _, rfl, rfl, ?_⟩
    exact ⟨_, _, _, rfl, rfl, Int.emod_nonneg _ (by decide), Int.emod_lt_of_pos _ (by decide)⟩
  · rintro σ H' ⟨one, found, o, rfl, rfl, g0, g1⟩
    exact ⟨_, rfl, sz (by show 1 ≤ 100000; decide), fun p hp => q p _ hp⟩
/-! ### _law_digit -/
def spDig : Sp := fun vs H Q _ => ∃ (tp : Addr) (many : Int), vs = [.ref tp, .int many] ∧ Tp H tp ∧ 0 < many ∧ many ≤ 100000000000000000000000000000000000000000000000000000000000 ∧ ∀ r H', 0 ≤ r → r < many → But1 tp H H' → Tp H' tp → Q (.int r) H'
theorem log_many {m : Int} (h0 : 0 < m) (h1 : m ≤ 100000000000000000000000000000000000000000000000000000000000) : m.natAbs.log2 < 9000 := by
  refine PySem.Flt.log2_lt_of (by decide) (Nat.lt_of_le_of_lt (m := 100000000000000000000000000000000000000000000000000000000000) (by omega) ?_)
  exact Nat.lt_of_lt_of_le (m := 2 ^ 200) (by decide) (Nat.pow_le_pow_right (by decide) (by decide))
abbrev s_law_digit : Stmt := top 23
theorem scLdigit : FnScope ["tape", "many", "found"] ["tape", "many"] (defScope s_law_digit) := ⟨rfl, rfl, rfl, by decide +kernel, rfl, by decide +kernel, by decide +kernel⟩
theorem ok_dig {f : Addr} {fd : FuncData} (F : Fun K "_law_digit" "_law_digit" s_law_digit f fd) : FnOk P w K mg base CX0 1 f fd ["tape", "many"] spDig := by
  refine F.ok scLdigit (fun vs H Q E h => ?_) (fun cdv A outer s H vs Q E hr h => ?_)
  · obtain ⟨tp, many, rfl, _⟩ := h
    rfl
  obtain ⟨tp, many, rfl, ⟨z, hz⟩, h0, h1, q⟩ := h
  refine ⟨_, (pss_cons (ps_set (i := 2) scLdigit.nd rfl (Or.inl rfl) (pe_op op_mod (pe_ix ix_list (pv 0) pe_int (fun _ _ => rfl)) (pv 1)))
    (pss_cons (ps_asg (pe_op op_fdivW (pe_ix ix_list (pv 0) pe_int (fun _ _ => rfl)) (pv 1)) (pg_sub (pv 0) pe_int set_list))
    (pss_one (ps_ret (pv 2))))), ?_⟩
  refine ⟨_, rfl, tp, _, _, _, rfl, rfl, SqL.of hz, at0, _, rfl, _, _, rfl, rfl, h0, ?_⟩
  refine ⟨_, rfl, tp, _, _, _, rfl, rfl, SqL.of hz, at0, _, rfl, _, _, rfl, rfl, ⟨h0, log_many h0 h1⟩, ?_⟩
  refine ⟨_, rfl, tp, _, _, 0, rfl, rfl, hz, rfl, ?_⟩
  refine ⟨_, rfl, q _ _ (Int.emod_nonneg _ (by omega)) (Int.emod_lt_of_pos _ h0) (fun b o n h => ?_) ⟨_, upd_same⟩⟩
  rw [upd_ne n]
  exact h
/-! ### _law_number -/
def spNum : Sp := fun vs H Q _ => ∃ (tp : Addr), vs = [.ref tp] ∧ Tp H tp ∧ ∀ r H', But1 tp H H' → Tp H' tp → 0 ≤ r → r < 1000 → Q (.int r) H'
abbrev s_law_number : Stmt := top 25
theorem scLnumber : FnScope ["tape", "way"] ["tape"] (defScope s_law_number) := ⟨rfl, rfl, rfl, by decide +kernel, rfl, by decide +kernel, by decide +kernel⟩
theorem at_some {xs : List V} {i : Int} (h0 : 0 ≤ i) (h1 : i < (xs.length : Int)) : ∃ v, atI xs i = some v ∧ v ∈ xs := by
  have h : i.toNat < xs.length := by omega
  exact ⟨xs[i.toNat], at_of (j := i.toNat) (by omega) (List.getElem?_eq_getElem h), List.getElem_mem h⟩
theorem ok_num {f g : Addr} {fd gd : FuncData} (F : Fun K "_law_number" "_law_number" s_law_number f fd) (G_law_digit : FnOk P w K mg base CX0 1 g gd ["tape", "many"] spDig) (R_law_digit : Ref K mg "_law_digit" g gd ["tape", "many"]) : FnOk P w K mg base CX0 2 f fd ["tape"] spNum := by
  refine F.ok scLnumber (fun vs H Q E h => ?_) (fun cdv A outer s H vs Q E hr h => ?_)
  · obtain ⟨tp, rfl, _⟩ := h
    rfl
  obtain ⟨tp, rfl, ht, q⟩ := h
  refine ⟨_, (pss_cons (ps_set (i := 1) scLnumber.nd rfl (Or.inl rfl) (pe_call G_law_digit hr rfl R_law_digit.m R_law_digit.k R_law_digit.b .nil pass0 (pa_cons (pv 0) (pa_cons pe_int pa_nil))))
    (pss_cons (ps_if (pt_cmpR op_eq (pv 1) pe_int (nomark _)) (pss_one (ps_ret (pe_call G_law_digit hr rfl R_law_digit.m R_law_digit.k R_law_digit.b .nil pass0 (pa_cons (pv 0) (pa_cons pe_int pa_nil))))) pss_nil)
    (pss_one (ps_ret (pe_ix ix_list (pe_lst (pa_cons pe_int (pa_cons pe_int (pa_cons pe_int (pa_cons pe_int (pa_cons pe_int pa_nil)))))) (pv 1) (fun _ _ => rfl)))))), ?_⟩
  refine ⟨_, rfl, tp, 6, rfl, ht, by decide, by decide, fun r H1 r0 r1 k1 t1 => ?_⟩
  refine ⟨_, rfl, rfl, _, rfl, ?_⟩
  refine ite2 (fun c => ?_) (fun c => ?_)
  · exact ⟨_, rfl, tp, 1000, rfl, t1, by decide, by decide, fun r2 H2 z0 z1 k2 t2 => q r2 H2 (k1.trans k2) t2 z0 z1⟩
  · have c' : r ≠ 5 := fun z => c (decide_eq_true (congrArg V.int z))
    refine ⟨sz (by show 5 ≤ 100000; decide), fun p hp => ?_⟩
    have np : tp ≠ p := by
      obtain ⟨z, hz⟩ := t1
      exact ne_of_none hz hp
    obtain ⟨v, hv, hm⟩ := at_some (xs := [V.int 0, .int 1, .int 1, .int 2, .int 3]) (i := r) r0 (by show r < 5; omega)
    have hi : ∃ n : Int, v = V.int n ∧ 0 ≤ n ∧ n < 1000 := by
      simp only [List.mem_cons, List.not_mem_nil, or_false] at hm
      rcases hm with z | z | z | z | z <;> exact ⟨_, z, by decide, by decide⟩
    obtain ⟨n, rfl, z0, z1⟩ := hi
    refine ⟨_, rfl, p, _, _, _, rfl, rfl, SqL.of upd_same, hv, ?_⟩
    refine q n _ (k1.trans (but_same (same_new hp _))) ?_ z0 z1
    obtain ⟨z, hz⟩ := t1
    exact ⟨z, same_new hp _ _ _ hz⟩
end
end KB

namespace KB
open PySem L2

/-! ### good terms -/
def okH : Hd → Prop
  | .nam x => isV x = true
  | .lett x | .ask x => isW x = true
  | .num z => 0 ≤ z ∧ z < 1000
  | _ => True
def okT : Tm → Prop
  | .mk h _ k => okH h ∧ ∀ i, okT (k i)
def HtLe : Nat → Tm → Prop
  | 0, _ => False
  | n + 1, .mk _ _ k => ∀ i, HtLe n (k i)
theorem HtLe.up : ∀ {n : Nat} {t : Tm}, HtLe n t → HtLe (n + 1) t
  | 0, _, h => h.elim
  | n + 1, .mk _ _ _, h => fun i => HtLe.up (n := n) (h i)
theorem HtLe.le {n m : Nat} {t : Tm} (h : HtLe n t) (e : n ≤ m) : HtLe m t := by
  induction e with
  | refl => exact h
  | step _ ih => exact ih.up
/-- each name within its word's reach, each ask with as many terms as hd says -/
def okN (hd : Str → Option Nat) : Hd → Nat → List Str → Prop
  | .nam x, _, xs => x ∈ xs
  | .ask f, n, _ => hd f = some n
  | _, _, _ => True
def inn : Hd → Nat → List Str → List Str
  | .lett x, 1, xs => xs ++ [x]
  | _, _, xs => xs
def okS (hd : Str → Option Nat) : Tm → List Str → Prop
  | .mk h n k, xs => okN hd h n xs ∧ ∀ i, okS hd (k i) (inn h i.val xs)
def mkL (h : Hd) (ts : List Tm) : Tm := .mk h ts.length fun i => ts.get i
theorem ofFn_get (ts : List Tm) : List.ofFn (fun i => ts.get i) = ts := by
  refine List.ext_getElem (by simp) fun i h1 h2 => ?_
  simp
theorem cnt_mkL {h : Hd} {ts : List Tm} : cnt (mkL h ts) = 1 + cnts ts := by
  unfold mkL
  rw [cnt_mk, ofFn_get]
theorem ok_mkL {h : Hd} {ts : List Tm} (a : okH h) (b : ∀ t ∈ ts, okT t) : okT (mkL h ts) := ⟨a, fun i => b _ (List.get_mem ts i)⟩
theorem ht_mkL {n : Nat} {h : Hd} {ts : List Tm} (b : ∀ t ∈ ts, HtLe n t) : HtLe (n + 1) (mkL h ts) := fun i => b _ (List.get_mem ts i)
theorem sc_mkL {hd : Str → Option Nat} {h : Hd} {ts : List Tm} {xs : List Str} (a : okN hd h ts.length xs) (b : ∀ i t, ts[i]? = some t → okS hd t (inn h i xs)) : okS hd (mkL h ts) xs :=
  ⟨a, fun i => b i.val _ (by rw [List.getElem?_eq_getElem i.isLt]; rfl)⟩
theorem lt_mkL {h : Hd} {ts : List Tm} : letsOf (mkL h ts) = hdLets h ++ letsL ts := by
  unfold mkL
  rw [lets_mk, ofFn_get]
theorem letsL_app (a b : List Tm) : letsL (a ++ b) = letsL a ++ letsL b := by
  unfold letsL
  rw [List.map_append, List.flatten_append]
theorem letsL_cons (t : Tm) (r : List Tm) : letsL (t :: r) = letsOf t ++ letsL r := by
  unfold letsL
  rw [List.map_cons, List.flatten_cons]
theorem stk_fn {H : Hp} : ∀ {vs : List V} {ts : List Tm}, Stk H vs ts → ∃ ys : _root_.Fin ts.length → Addr, Rfs ys = vs ∧ ∀ i, At H (ts.get i) (ys i)
  | [], [], _ => ⟨fun i => i.elim0, rfl, fun i => i.elim0⟩
  | v :: vs, t :: ts, h => by
    obtain ⟨⟨b, e, hb⟩, hr⟩ := h
    subst e
    obtain ⟨ys, e1, e2⟩ := stk_fn hr
    refine ⟨fun i => match i with | ⟨0, _⟩ => b | ⟨j + 1, hj⟩ => ys ⟨j, Nat.lt_of_succ_lt_succ hj⟩, ?_, ?_⟩
    · unfold Rfs
      show List.ofFn (n := ts.length + 1) _ = _
      rw [List.ofFn_succ, ← e1]
      rfl
    · rintro ⟨j, hj⟩
      cases j with
      | zero => exact hb
      | succ j => exact e2 ⟨j, Nat.lt_of_succ_lt_succ hj⟩
  | [], _ :: _, h => h.elim
  | _ :: _, [], h => h.elim
theorem at_mkL {H : Hp} {a : Addr} {h : Hd} {vs : List V} {ts : List Tm} (l : Lay H a h vs) (s : Stk H vs ts) : At H (mkL h ts) a := by
  obtain ⟨ys, e1, e2⟩ := stk_fn s
  refine ⟨ys, ?_, e2⟩
  rw [e1]
  exact l
/-- a new good term at a, of at most n terms, within at most d -/
structure Gd (H : Hp) (a : Addr) (n d : Nat) (hd : Str → Option Nat) (xs ls : List Str) (t : Tm) : Prop where
  at_ : At H t a
  ok : okT t
  cn : cnt t ≤ n
  dp : HtLe d t
  sc : okS hd t xs
  lt : letsOf t = ls
theorem Gd.tk {H H' : Hp} {a : Addr} {n d : Nat} {hd : Str → Option Nat} {xs ls : List Str} {t : Tm} (e : TK H H') (g : Gd H a n d hd xs ls t) : Gd H' a n d hd xs ls t := ⟨g.at_.tk e, g.ok, g.cn, g.dp, g.sc, g.lt⟩
theorem Gd.le {H : Hp} {a : Addr} {n d m e : Nat} {hd : Str → Option Nat} {xs ls : List Str} {t : Tm} (g : Gd H a n d hd xs ls t) (h1 : n ≤ m) (h2 : d ≤ e) : Gd H a m e hd xs ls t := ⟨g.at_, g.ok, Nat.le_trans g.cn h1, g.dp.le h2, g.sc, g.lt⟩
theorem gd_num {H : Hp} {a : Addr} {z : Int} {hd : Str → Option Nat} {xs : List Str} (l : Lay H a (.num z) []) (o : 0 ≤ z ∧ z < 1000) : Gd H a 1 1 hd xs [] (mkL (.num z) []) :=
  ⟨at_mkL l trivial, ok_mkL o (fun _ z => nomatch z), (by rw [cnt_mkL]; exact Nat.le_refl 1), ht_mkL (n := 0) (fun _ z => nomatch z), sc_mkL trivial (fun _ _ z => by simp at z), lt_mkL⟩
theorem gd_nam {H : Hp} {a : Addr} {x : Str} {hd : Str → Option Nat} {xs : List Str} (l : Lay H a (.nam x) []) (o : isW x = true) (m : x ∈ xs) : Gd H a 1 1 hd xs [] (mkL (.nam x) []) :=
  ⟨at_mkL l trivial, ok_mkL (isV_of o) (fun _ z => nomatch z), (by rw [cnt_mkL]; exact Nat.le_refl 1), ht_mkL (n := 0) (fun _ z => nomatch z), sc_mkL m (fun _ _ z => by simp at z), lt_mkL⟩

section
variable {P : Program} {w : World} {K : PySem.W.Frag} {mg : Str → Option Value} {base : Heap}
/-! ### _law_leaf -/
def spLeaf : Sp := fun vs H Q _ => ∃ (tp : Addr) (kv : V) (ar : Addr) (xs : List Str), vs = [.ref tp, kv, .ref ar] ∧ Tp H tp ∧ Wls H ar xs ∧ xs.length ≤ 1000 ∧ ∀ a t H', But1 tp H H' → Tp H' tp → (∀ hd, Gd H' a 1 1 hd xs [] t) → Q (.ref a) H'
abbrev s_law_leaf : Stmt := top 26
theorem scLleaf : FnScope ["tape", "known", "around"] ["tape", "known", "around"] (defScope s_law_leaf) := ⟨rfl, rfl, rfl, by decide +kernel, rfl, by decide +kernel, by decide +kernel⟩
theorem Tp.same {H H' : Hp} {tp : Addr} (e : Same H H') (t : Tp H tp) : Tp H' tp := let ⟨z, h⟩ := t; ⟨z, e _ _ h⟩
theorem ok_leaf (T : Txt K mg) {f g h : Addr} {fd gd hd : FuncData} (F : Fun K "_law_leaf" "_law_leaf" s_law_leaf f fd) (G_law_digit : FnOk P w K mg base CX0 1 g gd ["tape", "many"] spDig) (R_law_digit : Ref K mg "_law_digit" g gd ["tape", "many"])
    (G_law_number : FnOk P w K mg base CX0 2 h hd ["tape"] spNum) (R_law_number : Ref K mg "_law_number" h hd ["tape"]) : FnOk P w K mg base CX0 3 f fd ["tape", "known", "around"] spLeaf := by
  refine F.ok scLleaf (fun vs H Q E h => ?_) (fun cdv A outer s H vs Q E hr h => ?_)
  · obtain ⟨tp, kv, ar, xs, rfl, _⟩ := h
    rfl
  obtain ⟨tp, kv, ar, xs, rfl, ht, hw, hl, q⟩ := h
  refine ⟨_, (pss_cons (ps_if (PW.pt (pw_and (pt_cmpR (op_neD hr.units) (pv 2) (pe_lst pa_nil) (nomark _)) (pw_and1 (pt_cmpR op_gt (pe_call G_law_digit (hr.mono (by omega)) rfl R_law_digit.m R_law_digit.k R_law_digit.b .nil pass0 (pa_cons (pv 0) (pa_cons pe_int pa_nil))) pe_int (nomark _))))) (pss_one (ps_ret (pe_tup (pa_cons pe_str (pa_cons (pe_ix ix_list (pv 2) (pe_call G_law_digit (hr.mono (by omega)) rfl R_law_digit.m R_law_digit.k R_law_digit.b .nil pass0 (pa_cons (pv 0) (pa_cons (pe_callB call_len_seq (by rfl) T.m_len PySem.boot_len (pa_cons (pv 2) pa_nil)) pa_nil))) (fun _ _ => rfl)) pa_nil))))) pss_nil)
    (pss_one (ps_ret (pe_tup (pa_cons pe_str (pa_cons (pe_call G_law_number hr rfl R_law_number.m R_law_number.k R_law_number.b .nil pass0 (pa_cons (pv 0) pa_nil)) pa_nil)))))), ?_⟩
  have numW : ∀ H1, But1 tp H H1 → Tp H1 tp → (tRet (tTup (tCons (tC (.str "number")) (tCons (tCall spNum [] E0 (tCons (tVar 0) tNil)) tNil)))) { nx := fun x H' => Q V.non H', rt := Q } [some (.ref tp), some kv, some (.ref ar)] H1 := by
    intro H1 k1 t1
    refine ⟨_, rfl, tp, rfl, t1, fun r H2 k2 t2 r0 r1 => ⟨sz (by show 2 ≤ 100000; decide), fun p hp => ?_⟩⟩
    have s := same_new hp (.tup [.str "number", .int r])
    exact q p (mkL (.num r) []) _ ((k1.trans k2).trans (but_same s)) (t2.same s) (fun _ => gd_num ⟨rfl, upd_same⟩ ⟨r0, r1⟩)
  refine ⟨_, rfl, sz (by show 0 ≤ 100000; decide), fun p0 hp0 => ?_⟩
  have s0 := same_new hp0 (.lst [])
  refine ⟨.list (xs.map PyData.str), .list [], .lst (SqL.of (s0 _ _ hw.1)) (dp_strs xs), .lst (SqL.of upd_same) .nil, shaped_strs hw.2, rfl, _, rfl, ?_⟩
  rw [eqv_nil]
  cases xs with
  | nil => exact iteF (numW _ (but_same s0) (ht.same s0))
  | cons x0 xr =>
    refine iteT ⟨_, rfl, tp, 3, rfl, ht.same s0, by decide, by decide, fun r H1 r0 r1 k1 t1 => ?_⟩
    have k01 := (but_same s0).trans k1
    refine ⟨_, _, rfl, rfl, _, rfl, ?_⟩
    refine ite2 (fun c => ?_) (fun c => ?_)
    · have w1 := hw.but k01 ht
      refine ⟨_, rfl, _, rfl, _, rfl, ar, _, rfl, .inl (SqL.of w1.1), tp, _, rfl, t1, ?_, ?_, fun r2 H2 r3 r4 k2 t2 => ?_⟩
      · show (0 : Int) < (((x0 :: xr).map V.str).length : Nat)
        rw [List.length_map, List.length_cons]
        omega
      · rw [List.length_map]
        omega
      have w2 := w1.but k2 t1
      obtain ⟨v, hv, hm⟩ := at_some r3 r4
      obtain ⟨z, hz, rfl⟩ := List.mem_map.mp hm
      refine ⟨ar, _, _, _, rfl, rfl, SqL.of w2.1, hv, sz (by show 2 ≤ 100000; decide), fun p hp => ?_⟩
      have s := same_new hp (.tup [.str "name", .str z])
      exact q p (mkL (.nam z) []) _ ((k01.trans k2).trans (but_same s)) (t2.same s) (fun _ => gd_nam ⟨rfl, upd_same⟩ (hw.2 z hz) hz)
    · exact numW _ k01 t1
/-! ### _law_shares -/
def spShr : Sp := fun vs H Q _ => ∃ (tp : Addr) (room many : Int), vs = [.ref tp, .int room, .int many] ∧ Tp H tp ∧ 0 ≤ many ∧ many ≤ room ∧ room ≤ 1000 ∧
  ∀ (p : Addr) (xs : List Int) (H' : Hp), But1 tp H H' → Tp H' tp → H p = none → H' p = some (.lst (xs.map V.int)) → (xs.length : Int) = many → (∀ x ∈ xs, (1 : Int) ≤ x) → xs.sum ≤ room → Q (.ref p) H'
abbrev s_law_shares : Stmt := top 27
theorem scLshares : FnScope ["tape", "room", "many", "found", "left", "k", "more"] ["tape", "room", "many"] (defScope s_law_shares) := ⟨rfl, rfl, rfl, by decide +kernel, rfl, by decide +kernel, by decide +kernel⟩
theorem rep1 (n : Nat) : (List.replicate n [V.int 1]).flatten = (List.replicate n (1 : Int)).map V.int := by
  induction n with
  | zero => rfl
  | succ n ih =>
    rw [List.replicate_succ, List.flatten_cons, ih, List.replicate_succ]
    rfl
theorem sum1 (n : Nat) : (List.replicate n (1 : Int)).sum = n := by
  induction n with
  | zero => rfl
  | succ n ih =>
    rw [List.replicate_succ, List.sum_cons, ih]
    omega
theorem ok_shares (T : Txt K mg) {f g : Addr} {fd gd : FuncData} (F : Fun K "_law_shares" "_law_shares" s_law_shares f fd) (G_law_digit : FnOk P w K mg base CX0 1 g gd ["tape", "many"] spDig) (R_law_digit : Ref K mg "_law_digit" g gd ["tape", "many"]) : FnOk P w K mg base CX0 2 f fd ["tape", "room", "many"] spShr := by
  refine F.ok scLshares (fun vs H Q E h => ?_) (fun cdv A outer s H vs Q E hr h => ?_)
  · obtain ⟨tp, room, many, rfl, _⟩ := h
    rfl
  obtain ⟨tp, room, many, rfl, ht, h0, h1, h2, q⟩ := h
  refine ⟨_, (pss_cons (ps_set (i := 3) scLshares.nd rfl (Or.inl rfl) (pe_op op_rep (pe_lst (pa_cons pe_int pa_nil)) (pv 2)))
    (pss_cons (ps_set (i := 4) scLshares.nd rfl (Or.inl rfl) (pe_op op_sub (pv 1) (pv 2)))
    (pss_cons (ps_for PassesOwn.never rfl (pi_range1 rfl T.m_range (pa_cons (pv 2) pa_nil)) (pg_name (i := 5) scLshares.nd rfl (Or.inl rfl)) (pss_cons (ps_set (i := 6) scLshares.nd rfl (Or.inl rfl) (pe_call G_law_digit hr rfl R_law_digit.m R_law_digit.k R_law_digit.b .nil pass0 (pa_cons (pv 0) (pa_cons (pe_op op_add (pv 4) pe_int) pa_nil))))
    (pss_cons (ps_asg (pe_op op_add (pe_ix ix_list (pv 3) (pv 5) (fun _ _ => rfl)) (pv 6)) (pg_sub (pv 3) (pv 5) set_list))
    (pss_one (ps_set (i := 4) scLshares.nd rfl (Or.inl rfl) (pe_op op_sub (pv 4) (pv 6)))))))
    (pss_one (ps_ret (pv 3)))))), ?_⟩
  refine ⟨sz (by show 1 ≤ 100000; decide), fun p1 hp1 => ?_⟩
  have s1 := same_new hp1 (.lst [.int 1])
  refine ⟨_, rfl, p1, _, _, rfl, rfl, upd_same, by omega, by omega, sz (by show 1 * many.toNat ≤ 100000; omega), fun fl hfl => ?_⟩
  have s2 := same_new hfl (.lst (List.replicate many.toNat [V.int 1]).flatten)
  have s12 := s1.trans s2
  have hfl0 : H fl = none := s1.free hfl
  have f1 : upd (upd H p1 (.lst [.int 1])) fl (.lst (List.replicate many.toNat [V.int 1]).flatten) fl = some (.lst ((List.replicate many.toNat (1 : Int)).map V.int)) := by
    rw [upd_same, rep1]
  refine ⟨_, rfl, _, rfl, _, _, rfl, rfl, ?_⟩
  refine ⟨_, rfl, many, rfl, by omega, by omega, ?_⟩
  have ntp : fl ≠ tp := by
    obtain ⟨z, hz⟩ := ht
    exact (ne_of_none hz hfl0).symm
  refine for_range (lo := 0) (n := many.toNat) (fun i σ H' => ∃ left o5 o6 xs, σ = [some (.ref tp), some (.int room), some (.int many), some (.ref fl), some (.int left), o5, o6] ∧ But1 tp H H' ∧ Tp H' tp ∧ H' fl = some (.lst ((xs : List Int).map V.int)) ∧
    (xs.length : Int) = many ∧ (∀ x ∈ xs, (1 : Int) ≤ x) ∧ xs.sum + left = room ∧ 0 ≤ left) ?_ ?_ ?_
  · refine ⟨_, _, _, List.replicate many.toNat 1, rfl, but_same s12, ht.same s12, f1, ?_, ?_, ?_, by omega⟩
    · rw [List.length_replicate]
      omega
    · intro x hx
      rw [(List.mem_replicate.mp hx).2]
      decide
    · rw [sum1]
      omega
  · rintro i σ H1 hi ⟨left, o5, o6, xs, rfl, k1, t1, g1, g2, g3, g4, g5⟩
    refine ⟨_, rfl, _, rfl, _, _, rfl, rfl, tp, _, rfl, t1, by omega, ?_, fun r H2 r0 r1 k2 t2 => ?_⟩
    · have : xs.sum ≥ 0 := by
        clear g1 g2 g4
        induction xs with
        | nil => decide
        | cons x r ih =>
          have e1 := g3 x List.mem_cons_self
          have e2 := ih fun y hy => g3 y (List.mem_cons_of_mem _ hy)
          rw [List.sum_cons]
          omega
      omega
    have g6 := k2 _ _ ntp g1
    have hi2 : i < xs.length := by omega
    have hx : xs[i]? = some xs[i] := List.getElem?_eq_getElem hi2
    have e0 : (0 : Int) + (i : Nat) = ((i : Nat) : Int) := by omega
    refine ⟨_, rfl, _, rfl, fl, _, _, .int xs[i], rfl, rfl, SqL.of g6, ?_, _, rfl, _, _, rfl, rfl, ?_⟩
    · rw [e0]
      exact atI_nat (by rw [List.getElem?_map, hx]; rfl)
    refine ⟨_, rfl, _, rfl, fl, _, _, i, rfl, rfl, g6, ?_, ?_⟩
    · rw [e0, List.length_map]
      unfold ixN
      rw [if_pos (by omega), if_pos (by omega)]
      rfl
    refine ⟨_, rfl, _, rfl, _, _, rfl, rfl, ?_⟩
    refine ⟨_, _, _, xs.set i (xs[i] + r), rfl, fun b o n h => ?_, ?_, ?_, ?_, ?_, ?_, by omega⟩
    · by_cases e : b = fl
      · subst e
        rw [hfl0] at h
        cases h
      · rw [upd_ne e]
        exact k2 _ _ n (k1 _ _ n h)
    · obtain ⟨z, hz⟩ := t2
      exact ⟨z, by rw [upd_ne (Ne.symm ntp)]; exact hz⟩
    · rw [upd_same, List.map_set]
    · rw [List.length_set]
      exact g2
    · intro x hx'
      rcases List.mem_or_eq_of_mem_set hx' with z | z
      · exact g3 x z
      · have := g3 _ (List.getElem_mem hi2)
        omega
    · rw [sum_set hx]
      omega
  · rintro σ H1 ⟨left, o5, o6, xs, rfl, k1, t1, g1, g2, g3, g4, g5⟩
    exact ⟨_, rfl, q fl xs H1 k1 t1 hfl0 g1 g2 g3 (by omega)⟩
/-! ### _law_less_one -/
theorem simple_mkL {h : Hd} {ts : List Tm} (a : flatHd h = true) (b : ∀ t ∈ ts, simple t = true) : simple (mkL h ts) = true := by
  unfold mkL simple
  rw [a, Bool.true_and, List.all_eq_true]
  intro x hx
  obtain ⟨i, rfl⟩ := List.mem_ofFn.mp hx
  exact b _ (List.get_mem ts i)
def spLess : Sp := fun vs H Q _ => ∃ (ar : Addr) (xs : List Str), vs = [.ref ar] ∧ Wls H ar xs ∧ ∀ a t H', Same H H' → (∀ hd, Gd H' a 3 2 hd xs [] t) → simple t = true → Q (.ref a) H'
abbrev s_law_less_one : Stmt := top 28
theorem scLless_one : FnScope ["around"] ["around"] (defScope s_law_less_one) := ⟨rfl, rfl, rfl, by decide +kernel, rfl, by decide +kernel, by decide +kernel⟩
theorem ok_less {f : Addr} {fd : FuncData} (F : Fun K "_law_less_one" "_law_less_one" s_law_less_one f fd) : FnOk P w K mg base CX0 1 f fd ["around"] spLess := by
  refine F.ok scLless_one (fun vs H Q E h => ?_) (fun cdv A outer s H vs Q E hr h => ?_)
  · obtain ⟨ar, xs, rfl, _⟩ := h
    rfl
  obtain ⟨ar, xs, rfl, hw, q⟩ := h
  refine ⟨_, (pss_cons (ps_if (pt_cmpR (op_eqD hr.units) (pv 0) (pe_lst pa_nil) (nomark _)) (pss_one (ps_ret (pe_tup (pa_cons pe_str (pa_cons pe_int pa_nil))))) pss_nil)
    (pss_one (ps_ret (pe_tup (pa_cons pe_str (pa_cons (pe_tup (pa_cons pe_str (pa_cons (pe_ix ix_list (pv 0) pe_int (fun _ _ => rfl)) pa_nil))) (pa_cons (pe_tup (pa_cons pe_str (pa_cons pe_int pa_nil))) pa_nil))))))), ?_⟩
  refine ⟨_, rfl, sz (by show 0 ≤ 100000; decide), fun p0 hp0 => ?_⟩
  have s0 := same_new hp0 (.lst [])
  refine ⟨.list (xs.map PyData.str), .list [], .lst (SqL.of (s0 _ _ hw.1)) (dp_strs xs), .lst (SqL.of upd_same) .nil, shaped_strs hw.2, rfl, _, rfl, ?_⟩
  rw [eqv_nil]
  cases xs with
  | nil =>
    refine iteT ⟨sz (by show 2 ≤ 100000; decide), fun p hp => ?_⟩
    exact q p (mkL (.num 0) []) _ (s0.trans (same_new hp _)) (fun _ => (gd_num ⟨rfl, upd_same⟩ (by decide)).le (by decide) (by decide)) (simple_mkL rfl (fun _ z => nomatch z))
  | cons x0 xr =>
    refine iteF ⟨_, rfl, ar, _, _, _, rfl, rfl, SqL.of (s0 _ _ hw.1), at0, sz (by show 2 ≤ 100000; decide), fun p1 hp1 => ?_⟩
    have s1 := same_new hp1 (.tup [.str "name", .str x0])
    refine ⟨sz (by show 2 ≤ 100000; decide), fun p2 hp2 => ?_⟩
    have s2 := same_new hp2 (.tup [.str "number", .int 1])
    refine ⟨sz (by show 3 ≤ 100000; decide), fun p3 hp3 => ?_⟩
    have s3 := same_new hp3 (.tup [.str "less", .ref p1, .ref p2])
    have s23 := s2.trans s3
    have l1 : Lay _ p1 (.nam x0) [] := ⟨rfl, s23 _ _ upd_same⟩
    have l2 : Lay _ p2 (.num 1) [] := ⟨rfl, s3 _ _ upd_same⟩
    refine q p3 (mkL .less [mkL (.nam x0) [], mkL (.num 1) []]) _ (s0.trans (s1.trans s23)) (fun hd => ?_) (simple_mkL rfl fun t ht => by
      simp only [List.mem_cons, List.not_mem_nil, or_false] at ht
      rcases ht with z | z <;> subst z <;> exact simple_mkL rfl (fun _ z => nomatch z))
    have g1 := gd_nam (hd := hd) (xs := x0 :: xr) l1 (hw.2 x0 List.mem_cons_self) List.mem_cons_self
    have g2 := gd_num (hd := hd) (xs := x0 :: xr) l2 (by decide)
    refine ⟨?_, ?_, ?_, ?_, ?_, ?_⟩
    · exact at_mkL (vs := [.ref p1, .ref p2]) ⟨rfl, upd_same⟩ ⟨⟨p1, rfl, g1.at_⟩, ⟨p2, rfl, g2.at_⟩, trivial⟩
    · refine ok_mkL trivial fun t ht => ?_
      simp only [List.mem_cons, List.not_mem_nil, or_false] at ht
      rcases ht with z | z
      · subst z
        exact g1.ok
      · subst z
        exact g2.ok
    · have c1 := g1.cn
      have c2 := g2.cn
      rw [cnt_mkL, cnts_cons, cnts_cons]
      show 1 + (_ + (_ + 0)) ≤ 3
      omega
    · refine ht_mkL fun t ht => ?_
      simp only [List.mem_cons, List.not_mem_nil, or_false] at ht
      rcases ht with z | z
      · subst z
        exact g1.dp
      · subst z
        exact g2.dp
    · refine sc_mkL trivial fun i t hi => ?_
      match i, hi with
      | 0, hi =>
        cases (Option.some.inj hi)
        exact g1.sc
      | 1, hi =>
        cases (Option.some.inj hi)
        exact g2.sc
      | i + 2, hi => simp at hi
    · rw [lt_mkL, letsL_cons, letsL_cons, g1.lt, g2.lt]
      rfl
end
end KB

namespace KB
open PySem L2

/-! ### parts of turned books as data -/
inductive Pt
  | give (j : Str) (t : Tm)
  | ask (f : Str) (ts : List Tm) (j : Str)
  | tell (x : Str) (t : Tm) (p : Pt)
  | lett (x : Str) (t : Tm) (p : Pt)
  | iff (t : Tm) (p q : Pt)
  | post (j x : Str) (p q : Pt)
def RefV (H : Hp) (t : Tm) (v : V) : Prop := ∃ b, v = .ref b ∧ At H t b
def PAt (H : Hp) : Pt → Addr → Prop
  | .give j t, a => ∃ b, H a = some (.tup [.str "give", .str j, .ref b]) ∧ At H t b
  | .ask f ts j, a => ∃ q vs, H a = some (.tup [.str "ask", .str f, .ref q, .str j]) ∧ H q = some (.tup vs) ∧ All2 (RefV H) ts vs
  | .tell x t p, a => ∃ b c, H a = some (.tup [.str "tell", .str x, .ref b, .ref c]) ∧ At H t b ∧ PAt H p c
  | .lett x t p, a => ∃ b c, H a = some (.tup [.str "let", .str x, .ref b, .ref c]) ∧ At H t b ∧ PAt H p c
  | .iff t p q, a => ∃ b c d, H a = some (.tup [.str "if", .ref b, .ref c, .ref d]) ∧ At H t b ∧ PAt H p c ∧ PAt H q d
  | .post j x p q, a => ∃ c d, H a = some (.tup [.str "post", .str j, .str x, .ref c, .ref d]) ∧ PAt H p c ∧ PAt H q d
theorem RefV.tk {H H' : Hp} (k : TK H H') {t : Tm} {v : V} (h : RefV H t v) : RefV H' t v := let ⟨b, e, g⟩ := h; ⟨b, e, g.tk k⟩
theorem PAt.tk {H H' : Hp} (k : TK H H') : ∀ {p : Pt} {a : Addr}, PAt H p a → PAt H' p a
  | .give j t, a, ⟨b, h1, h2⟩ => ⟨b, k _ _ h1, h2.tk k⟩
  | .ask f ts j, a, ⟨q, vs, h1, h2, h3⟩ => ⟨q, vs, k _ _ h1, k _ _ h2, h3.imp fun _ _ z => z.tk k⟩
  | .tell x t p, a, ⟨b, c, h1, h2, h3⟩ => ⟨b, c, k _ _ h1, h2.tk k, PAt.tk k h3⟩
  | .lett x t p, a, ⟨b, c, h1, h2, h3⟩ => ⟨b, c, k _ _ h1, h2.tk k, PAt.tk k h3⟩
  | .iff t p q, a, ⟨b, c, d, h1, h2, h3, h4⟩ => ⟨b, c, d, k _ _ h1, h2.tk k, PAt.tk k h3, PAt.tk k h4⟩
  | .post j x p q, a, ⟨c, d, h1, h2, h3⟩ => ⟨c, d, k _ _ h1, PAt.tk k h2, PAt.tk k h3⟩
/-- a simple term within words -/
structure SmT (hd : Str → Option Nat) (xs : List Str) (t : Tm) : Prop where
  ok : okT t
  si : simple t = true
  sc : okS hd t xs
  cn : cnt t ≤ 3
  ht : HtLe 2 t
def okP (hd : Str → Option Nat) : Pt → List Str → List Str → Prop
  | .give j t, xs, hs => j ∈ hs ∧ SmT hd xs t
  | .ask f ts j, xs, hs => j ∈ hs ∧ isW f = true ∧ hd f = some ts.length ∧ ts.length ≤ 4 ∧ ∀ t ∈ ts, SmT hd xs t
  | .tell x t p, xs, hs => isW x = true ∧ SmT hd xs t ∧ okP hd p (xs ++ [x]) hs
  | .lett x t p, xs, hs => isW x = true ∧ SmT hd xs t ∧ okP hd p (xs ++ [x]) hs
  | .iff t p q, xs, hs => SmT hd xs t ∧ okP hd p xs hs ∧ okP hd q xs hs
  | .post j x p q, xs, hs => isW j = true ∧ isW x = true ∧ okP hd p (xs ++ [x]) hs ∧ okP hd q xs (hs ++ [j])
def pcnt : Pt → Nat
  | .give _ _ => 1
  | .ask _ _ _ => 1
  | .tell _ _ p => 1 + pcnt p
  | .lett _ _ p => 1 + pcnt p
  | .iff _ p q => 1 + pcnt p + pcnt q
  | .post _ _ p q => 1 + pcnt p + pcnt q
/-- the words and the posts' words that a part binds, as they are met -/
def wP : Pt → List Str
  | .give _ _ => []
  | .ask _ _ _ => []
  | .tell x _ p => x :: wP p
  | .lett x _ p => x :: wP p
  | .iff _ p q => wP p ++ wP q
  | .post _ x p q => x :: (wP p ++ wP q)
def jP : Pt → List Str
  | .give _ _ => []
  | .ask _ _ _ => []
  | .tell _ _ p => jP p
  | .lett _ _ p => jP p
  | .iff _ p q => jP p ++ jP q
  | .post j _ p q => j :: (jP p ++ jP q)

/-! ### what the generator of parts has at hand -/
def But3 (tp wl pl : Addr) (H H' : Hp) : Prop := ∀ b o, b ≠ tp → b ≠ wl → b ≠ pl → H b = some o → H' b = some o
theorem But3.refl (tp wl pl : Addr) (H : Hp) : But3 tp wl pl H H := fun _ _ _ _ _ h => h
theorem But3.trans {tp wl pl : Addr} {H H1 H2 : Hp} (a : But3 tp wl pl H H1) (b : But3 tp wl pl H1 H2) : But3 tp wl pl H H2 := fun x o n m l h => b x o n m l (a x o n m l h)
theorem But1.three {tp wl pl : Addr} {H H' : Hp} (a : But1 tp H H') : But3 tp wl pl H H' := fun x o n _ _ h => a x o n h
theorem but3_same {tp wl pl : Addr} {H H' : Hp} (e : Same H H') : But3 tp wl pl H H' := fun b o _ _ _ h => e b o h
abbrev kgE : Key := Sum.inr "errands"
abbrev kgH : Key := Sum.inr "heads"
abbrev kgW : Key := Sum.inr "words"
abbrev kgR : Key := Sum.inr "room"
abbrev kgP : Key := Sum.inr "posts"
abbrev kgS : Key := Sum.inr "straight"
def knT (el hd wl pl : Addr) (room : Int) (st : Bool) : List (Key × V) := [(kgE, .ref el), (kgH, .ref hd), (kgW, .ref wl), (kgR, .int room), (kgP, .ref pl), (kgS, .bl st)]
structure GT (H : Hp) (tp kd wl pl : Addr) (hF : Str → Option Nat) (ws js : List Str) : Prop where
  t : Tp H tp
  w : Wls H wl ws
  p : Wls H pl js
  wn : ws.length ≤ 100
  pn : js.length ≤ 100
  wp : wl ≠ pl
  k : ∃ el hd fs kvs room st, H kd = some (.dK (knT el hd wl pl room st)) ∧ 1 ≤ room ∧ room ≤ 9 ∧ el ≠ wl ∧ el ≠ pl ∧ Wls H el fs ∧ 0 < fs.length ∧ fs.length ≤ 100 ∧ H hd = some (.dK kvs) ∧ ∀ f ∈ fs, ∃ n : Int, valV kvs (Sum.inr f) = some (.int n) ∧ 0 ≤ n ∧ n ≤ 4 ∧ hF f = some n.toNat
section
variable {H H' : Hp} {tp kd wl pl : Addr} {hF : Str → Option Nat} {ws js ws' js' : List Str}
theorem GT.ntk (g : GT H tp kd wl pl hF ws js) {a : Addr} {o : HO} (h : H a = some o) (hn : ∀ xs, o ≠ .lst xs) : a ≠ tp ∧ a ≠ wl ∧ a ≠ pl := by
  obtain ⟨z, hz⟩ := g.t
  exact ⟨ne_of h hz (hn _), ne_of h g.w.1 (hn _), ne_of h g.p.1 (hn _)⟩
theorem GT.tk (g : GT H tp kd wl pl hF ws js) (b : But3 tp wl pl H H') : TK H H' := fun a _ h => by
  obtain ⟨n1, n2, n3⟩ := g.ntk h (fun _ z => nomatch z)
  exact b a _ n1 n2 n3 h
theorem GT.step (g : GT H tp kd wl pl hF ws js) (b : But3 tp wl pl H H') (t : Tp H' tp) (w : Wls H' wl ws') (p : Wls H' pl js') (wn : ws'.length ≤ 100) (pn : js'.length ≤ 100) : GT H' tp kd wl pl hF ws' js' := by
  obtain ⟨el, hd, fs, kvs, room, st, k1, r1, r2, k2, k2', k3, k4, k5, k6, k7⟩ := g.k
  refine ⟨t, w, p, wn, pn, g.wp, el, hd, fs, kvs, room, st, ?_, r1, r2, k2, k2', ⟨b _ _ (wls_tp k3.1 g.t) k2 k2' k3.1, k3.2⟩, k4, k5, ?_, k7⟩
  · obtain ⟨n1, n2, n3⟩ := g.ntk k1 (fun _ z => nomatch z)
    exact b _ _ n1 n2 n3 k1
  · obtain ⟨n1, n2, n3⟩ := g.ntk k6 (fun _ z => nomatch z)
    exact b _ _ n1 n2 n3 k6
theorem GT.one (g : GT H tp kd wl pl hF ws js) (b : But1 tp H H') (t : Tp H' tp) : GT H' tp kd wl pl hF ws js := g.step b.three t (g.w.but b g.t) (g.p.but b g.t) g.wn g.pn
theorem GT.same (g : GT H tp kd wl pl hF ws js) (e : Same H H') : GT H' tp kd wl pl hF ws js := g.one (but_same e) (g.t.same e)
theorem Wls.three {a : Addr} {xs : List Str} (e : But3 tp wl pl H H') (g : GT H tp kd wl pl hF ws js) (n : a ≠ wl) (m : a ≠ pl) (h : Wls H a xs) : Wls H' a xs := ⟨e _ _ (wls_tp h.1 g.t) n m h.1, h.2⟩
theorem GT.new (g : GT H tp kd wl pl hF ws js) {p : Addr} (h : H p = none) : p ≠ tp ∧ p ≠ wl ∧ p ≠ pl := by
  obtain ⟨z, hz⟩ := g.t
  exact ⟨(ne_of_none hz h).symm, (ne_of_none g.w.1 h).symm, (ne_of_none g.p.1 h).symm⟩
variable {el hd : Addr} {room : Int} {st : Bool}
theorem gt_errands (h : H kd = some (.dK (knT el hd wl pl room st))) : DGet H kd (.str "errands") (some (.ref el)) := DGet.k (k := kgE) h
theorem gt_heads (h : H kd = some (.dK (knT el hd wl pl room st))) : DGet H kd (.str "heads") (some (.ref hd)) := DGet.k (k := kgH) h
theorem gt_words (h : H kd = some (.dK (knT el hd wl pl room st))) : DGet H kd (.str "words") (some (.ref wl)) := DGet.k (k := kgW) h
theorem gt_room (h : H kd = some (.dK (knT el hd wl pl room st))) : DGet H kd (.str "room") (some (.int room)) := DGet.k (k := kgR) h
theorem gt_posts (h : H kd = some (.dK (knT el hd wl pl room st))) : DGet H kd (.str "posts") (some (.ref pl)) := DGet.k (k := kgP) h
theorem gt_straight (h : H kd = some (.dK (knT el hd wl pl room st))) : DGet H kd (.str "straight") (some (.bl st)) := DGet.k (k := kgS) h
end
theorem get_of {H : Hp} {hd : Addr} {kvs : List (Key × V)} {f : Str} {v : V} (h : H hd = some (.dK kvs)) (e : valV kvs (Sum.inr f) = some v) : DGet H hd (.str f) (some v) := by
  have := DGet.k (k := Sum.inr f) h
  rw [e] at this
  exact this
/-- the hand-ons around -/
def Hls (H : Hp) (a : Addr) (hs : List Str) : Prop := H a = some (.lst (hs.map V.str))
end KB

namespace KB
open PySem L2

section
variable {P : Program} {w : World} {K : PySem.W.Frag} {mg : Str → Option Value} {base : Heap}
/-! ### _law_simple -/
/-- a simple term at a, of at most n terms, within d -/
structure GdS (H : Hp) (a : Addr) (n d : Nat) (hd : Str → Option Nat) (xs : List Str) (t : Tm) : Prop where
  g : Gd H a n d hd xs [] t
  s : simple t = true
def spSimple (n : Nat) : Sp := fun vs H Q _ => ∃ (tp ar : Addr) (xs : List Str), vs = [.ref tp, .ref ar, .int n] ∧ Tp H tp ∧ Wls H ar xs ∧ xs.length ≤ 1000 ∧ n ≤ 1 ∧ ∀ a t H', But1 tp H H' → Tp H' tp → (∀ hd, GdS H' a (2 * n + 1) (n + 1) hd xs t) → Q (.ref a) H'
abbrev s_law_simple : Stmt := top 33
theorem scLsimple : FnScope ["tape", "around", "deep", "one"] ["tape", "around", "deep"] (defScope s_law_simple) := ⟨rfl, rfl, rfl, by decide +kernel, rfl, by decide +kernel, by decide +kernel⟩
theorem leaf_simple {H : Hp} {a : Addr} {xs : List Str} {t : Tm} (g : ∀ hd, Gd H a 1 1 hd xs [] t) : simple t = true := by
  have g0 := g fun _ => none
  cases t with
  | mk h n k =>
    have hc := g0.cn
    rw [cnt_mk] at hc
    have hn : n = 0 := by
      cases n with
      | zero => rfl
      | succ m =>
        exfalso
        rw [List.ofFn_succ, cnts_cons] at hc
        have := cnt_pos (k 0)
        omega
    subst hn
    obtain ⟨ys, l, _⟩ := g0.at_
    have hl : (Rfs ys).length = 0 := by
      unfold Rfs
      rw [List.length_ofFn]
    have hs := g0.sc.1
    cases h with
    | num z => rfl
    | nam x => rfl
    | plus => rfl
    | less => rfl
    | tell =>
      have := l.1
      omega
    | lett x =>
      have := l.1
      omega
    | iff =>
      have := l.1
      omega
    | ask f => cases hs
def spPrev : Nat → Sp
  | 0 => fun _ _ _ _ => False
  | n + 1 => spSimple n
theorem two_simple {H : Hp} {p a b : Addr} {hd : Str → Option Nat} {xs : List Str} {h : Hd} {t u : Tm} (hh : h = .plus ∨ h = .less) (g1 : GdS H a 1 1 hd xs t) (g2 : GdS H b 1 1 hd xs u) (hp : H p = some (.tup [.str (hs h), .ref a, .ref b])) : GdS H p 3 2 hd xs (mkL h [t, u]) := by
  have both : ∀ (Pr : Tm → Prop), Pr t → Pr u → ∀ x ∈ [t, u], Pr x := fun Pr h1 h2 x hx => by
    rcases List.mem_cons.mp hx with z | z
    · rw [z]
      exact h1
    · rw [List.mem_singleton.mp z]
      exact h2
  have lay : Lay H p h [.ref a, .ref b] := by
    rcases hh with rfl | rfl
    · exact ⟨rfl, hp⟩
    · exact ⟨rfl, hp⟩
  have c1 := g1.g.cn
  have c2 := g2.g.cn
  refine ⟨⟨at_mkL lay ⟨⟨a, rfl, g1.g.at_⟩, ⟨b, rfl, g2.g.at_⟩, trivial⟩, ok_mkL (by rcases hh with rfl | rfl <;> trivial) (both _ g1.g.ok g2.g.ok), ?_, ht_mkL (both _ g1.g.dp g2.g.dp), ?_, ?_⟩, simple_mkL (by rcases hh with rfl | rfl <;> rfl) (both _ g1.s g2.s)⟩
  · rw [cnt_mkL, cnts_cons, cnts_cons]
    show 1 + (_ + (_ + 0)) ≤ 3
    omega
  · refine sc_mkL (by rcases hh with rfl | rfl <;> trivial) fun i x hi => ?_
    have hin : inn h i xs = xs := by rcases hh with rfl | rfl <;> rfl
    rw [hin]
    exact both (fun y => okS hd y xs) g1.g.sc g2.g.sc x (List.mem_of_getElem? hi)
  · have e1 := g1.g.lt
    have e2 := g2.g.lt
    have : letsOf (mkL h [t, u]) = hdLets h ++ letsL [t, u] := by
      unfold mkL
      rw [lets_mk, ofFn_get]
    rw [this]
    show hdLets h ++ (letsOf t ++ (letsOf u ++ [])) = []
    rw [e1, e2]
    rcases hh with rfl | rfl <;> rfl
theorem GdS.tk {H H' : Hp} {a : Addr} {n d : Nat} {hd : Str → Option Nat} {xs : List Str} {t : Tm} (k : TK H H') (g : GdS H a n d hd xs t) : GdS H' a n d hd xs t := ⟨g.g.tk k, g.s⟩
theorem tp_tk {tp : Addr} {H H' : Hp} (t : Tp H tp) (b : But1 tp H H') : TK H H' := b.tk t
theorem ok_simple (T : Txt K mg) (n : Nat) {f fg fh : Addr} {fd gd hd : FuncData} (F : Fun K "_law_simple" "_law_simple" s_law_simple f fd) (G_law_digit : FnOk P w K mg base CX0 1 fg gd ["tape", "many"] spDig) (R_law_digit : Ref K mg "_law_digit" fg gd ["tape", "many"])
    (G_law_leaf : FnOk P w K mg base CX0 3 fh hd ["tape", "known", "around"] spLeaf) (R_law_leaf : Ref K mg "_law_leaf" fh hd ["tape", "known", "around"])
    (G_law_simple : FnOk P w K mg base CX0 (n + 3) f fd ["tape", "around", "deep"] (spPrev n)) (R_law_simple : Ref K mg "_law_simple" f fd ["tape", "around", "deep"]) : FnOk P w K mg base CX0 (n + 4) f fd ["tape", "around", "deep"] (spSimple n) := by
  refine F.ok scLsimple (fun vs H Q E h => ?_) (fun cdv A outer s H vs Q E hr h => ?_)
  · obtain ⟨tp, ar, xs, rfl, _⟩ := h
    rfl
  obtain ⟨tp, ar, xs, rfl, ht, hw, hx, hn1, q⟩ := h
  refine ⟨_, (pss_cons (ps_if (PW.pt (pw_or (pt_cmpR op_eq (pv 2) pe_int (nomark _)) (pw_or1 (pt_cmpR op_gt (pe_call G_law_digit (hr.mono (by omega)) rfl R_law_digit.m R_law_digit.k R_law_digit.b .nil pass0 (pa_cons (pv 0) (pa_cons pe_int pa_nil))) pe_int (nomark _))))) (pss_one (ps_ret (pe_call G_law_leaf (hr.mono (by omega)) rfl R_law_leaf.m R_law_leaf.k R_law_leaf.b .nil pass0 (pa_cons (pv 0) (pa_cons pe_dnewK (pa_cons (pv 1) pa_nil)))))) pss_nil)
    (pss_cons (ps_set (i := 3) scLsimple.nd rfl (Or.inl rfl) (pe_call G_law_simple (hr.mono (by omega)) rfl R_law_simple.m R_law_simple.k R_law_simple.b .nil pass0 (pa_cons (pv 0) (pa_cons (pv 1) (pa_cons (pe_op op_sub (pv 2) pe_int) pa_nil)))))
    (pss_one (ps_ret (pe_tup (pa_cons (pe_ix ix_list (pe_lst (pa_cons pe_str (pa_cons pe_str pa_nil))) (pe_call G_law_digit (hr.mono (by omega)) rfl R_law_digit.m R_law_digit.k R_law_digit.b .nil pass0 (pa_cons (pv 0) (pa_cons pe_int pa_nil))) (fun _ _ => rfl)) (pa_cons (pv 3) (pa_cons (pe_call G_law_simple (hr.mono (by omega)) rfl R_law_simple.m R_law_simple.k R_law_simple.b .nil pass0 (pa_cons (pv 0) (pa_cons (pv 1) (pa_cons (pe_op op_sub (pv 2) pe_int) pa_nil)))) pa_nil)))))))), ?_⟩
  have leafW : ∀ H1, But1 tp H H1 → Tp H1 tp → (tRet (tCall spLeaf [] E0 (tCons (tVar 0) (tCons tDNewK (tCons (tVar 1) tNil))))) { nx := fun x H' => Q V.non H', rt := Q } [some (.ref tp), some (.ref ar), some (.int n), none] H1 := by
    intro H1 b1 t1
    have w1 := hw.but b1 ht
    refine ⟨_, rfl, fun kv hkv => ⟨_, rfl, ?_⟩⟩
    have s2 := same_new hkv (.dK [])
    refine ⟨tp, .ref kv, ar, xs, rfl, t1.same s2, w1.but (but_same s2) t1, hx, fun a t H3 b3 t3 gd => ?_⟩
    exact q a t H3 ((b1.trans (but_same s2)).trans b3) t3 fun hd => ⟨(gd hd).le (by omega) (by omega), leaf_simple gd⟩
  refine ⟨_, rfl, rfl, _, rfl, ?_⟩
  cases n with
  | zero => exact itT rfl (iteT (leafW H (But1.refl _ _) ht))
  | succ n =>
    have hn0 : n = 0 := by omega
    subst hn0
    refine itF rfl ⟨_, rfl, tp, 3, rfl, ht, by decide, by decide, fun r H1 r0 r1 b1 t1 => ?_⟩
    refine ⟨_, _, rfl, rfl, _, rfl, ?_⟩
    refine ite2 (fun c => leafW H1 b1 t1) (fun c => ?_)
    have w1 := hw.but b1 ht
    refine ⟨_, rfl, _, rfl, _, rfl, _, _, rfl, rfl, tp, ar, xs, rfl, t1, w1, hx, Nat.zero_le _, fun a1 u1 H2 b2 t2 g1 => ?_⟩
    have w2 := w1.but b2 t1
    refine ⟨sz (by show 2 ≤ 100000; decide), fun p3 hp3 => ?_⟩
    have s3 := same_new hp3 (.lst [V.str "plus", .str "less"])
    have np : p3 ≠ tp := by
      obtain ⟨z, hz⟩ := t2
      exact (ne_of_none hz hp3).symm
    have h3 : upd H2 p3 (.lst [V.str "plus", .str "less"]) p3 = some (.lst [V.str "plus", .str "less"]) := upd_same
    have t3 := t2.same s3
    have w3 := w2.but (but_same s3) t2
    refine ⟨_, rfl, tp, 2, rfl, t3, by decide, by decide, fun r4 H4 r40 r41 b4 t4 => ?_⟩
    obtain ⟨v, hv, hm⟩ := at_some (xs := [V.str "plus", .str "less"]) r40 r41
    obtain ⟨h, hh, rfl⟩ : ∃ h : Hd, (h = .plus ∨ h = .less) ∧ v = .str (hs h) := by
      rcases List.mem_cons.mp hm with z | z
      · exact ⟨.plus, .inl rfl, z⟩
      · exact ⟨.less, .inr rfl, List.mem_singleton.mp z⟩
    have w4 := w3.but b4 t3
    refine ⟨p3, _, _, _, rfl, rfl, SqL.of (b4 _ _ np h3), hv, _, rfl, _, rfl, _, rfl, _, rfl, _, _, rfl, rfl, tp, ar, xs, rfl, t4, w4, hx, Nat.zero_le _, fun a2 u2 H5 b5 t5 g2 => ?_⟩
    refine ⟨sz (by show 3 ≤ 100000; decide), fun p6 hp6 => ?_⟩
    have s6 := same_new hp6 (.tup [V.str (hs h), .ref a1, .ref a2])
    have k25 : TK H2 H5 := (tp_tk t2 (but_same s3)).trans ((tp_tk t3 b4).trans (tp_tk t4 b5))
    refine q p6 (mkL h [u1, u2]) _ (((((b1.trans b2).trans (but_same s3)).trans b4).trans b5).trans (but_same s6)) (t5.same s6) fun hd => ?_
    exact two_simple hh ((g1 hd).tk (k25.trans (tk_same s6))) ((g2 hd).tk (tk_same s6)) upd_same
theorem no_sp {k : Nat} {f : Addr} {fd : FuncData} {ps : List Str} : FnOk P w K mg base CX0 k f fd ps (fun _ _ _ _ => False) := ⟨fun _ _ _ _ z => z.elim, fun _ _ _ _ _ _ _ _ _ _ _ _ _ z => z.elim⟩
theorem all_simple (T : Txt K mg) {f fg fh : Addr} {fd gd hd : FuncData} (F : Fun K "_law_simple" "_law_simple" s_law_simple f fd) (G_law_digit : FnOk P w K mg base CX0 1 fg gd ["tape", "many"] spDig) (R_law_digit : Ref K mg "_law_digit" fg gd ["tape", "many"])
    (G_law_leaf : FnOk P w K mg base CX0 3 fh hd ["tape", "known", "around"] spLeaf) (R_law_leaf : Ref K mg "_law_leaf" fh hd ["tape", "known", "around"]) (R_law_simple : Ref K mg "_law_simple" f fd ["tape", "around", "deep"]) : FnOk P w K mg base CX0 5 f fd ["tape", "around", "deep"] (spSimple 1) :=
  ok_simple T 1 F G_law_digit R_law_digit G_law_leaf R_law_leaf (ok_simple T 0 F G_law_digit R_law_digit G_law_leaf R_law_leaf no_sp R_law_simple) R_law_simple
end
end KB

namespace KB
open PySem L2

section
variable {P : Program} {w : World} {K : PySem.W.Frag} {mg : Str → Option Value} {base : Heap}
/-! ### _law_some_hand -/
def spHand : Sp := fun vs H Q _ => ∃ (tp kd wl pl hl : Addr) (hF : Str → Option Nat) (ws js hs : List Str), vs = [.ref tp, .ref kd, .ref hl] ∧ GT H tp kd wl pl hF ws js ∧ Hls H hl hs ∧ hs ≠ [] ∧ hs.length ≤ 1000 ∧ hl ≠ tp ∧
  ∀ j H', But1 tp H H' → Tp H' tp → j ∈ hs → Q (.str j) H'
abbrev s_law_some_hand : Stmt := top 34
theorem scLsome_hand : FnScope ["tape", "known", "hands"] ["tape", "known", "hands"] (defScope s_law_some_hand) := ⟨rfl, rfl, rfl, by decide +kernel, rfl, by decide +kernel, by decide +kernel⟩
theorem ok_hand (T : Txt K mg) {f fg : Addr} {fd gd : FuncData} (F : Fun K "_law_some_hand" "_law_some_hand" s_law_some_hand f fd) (G_law_digit : FnOk P w K mg base CX0 1 fg gd ["tape", "many"] spDig) (R_law_digit : Ref K mg "_law_digit" fg gd ["tape", "many"]) :
    FnOk P w K mg base CX0 2 f fd ["tape", "known", "hands"] spHand := by
  refine F.ok scLsome_hand (fun vs H Q E h => ?_) (fun cdv A outer s H vs Q E hr h => ?_)
  · obtain ⟨tp, kd, wl, pl, hl, hF, ws, js, hs, rfl, _⟩ := h
    rfl
  obtain ⟨tp, kd, wl, pl, hl, hF, ws, js, hs, rfl, g, hh, hne, hlen, hn, q⟩ := h
  refine ⟨_, (pss_cons (ps_if (PW.pt (pw_or (pt_truth (pe_dget (hu_of hr) (pv 1) pe_str (fun _ _ => rfl)) (by intro _; rfl)) (pw_or1 (pt_cmpR op_gt (pe_call G_law_digit (hr.mono (by omega)) rfl R_law_digit.m R_law_digit.k R_law_digit.b .nil pass0 (pa_cons (pv 0) (pa_cons pe_int pa_nil))) pe_int (nomark _))))) (pss_one (ps_ret (pe_ix ix_list (pv 2) (pe_un un_neg pe_int) (fun _ _ => rfl)))) pss_nil)
    (pss_one (ps_ret (pe_ix ix_list (pv 2) (pe_call G_law_digit (hr.mono (by omega)) rfl R_law_digit.m R_law_digit.k R_law_digit.b .nil pass0 (pa_cons (pv 0) (pa_cons (pe_callB call_len_seq (by rfl) T.m_len PySem.boot_len (pa_cons (pv 2) pa_nil)) pa_nil))) (fun _ _ => rfl))))), ?_⟩
  obtain ⟨el, hd, fs, kvs, room, st, k1, _⟩ := g.k
  obtain ⟨r, j, rfl⟩ : ∃ r j, hs = r ++ [j] := ⟨hs.dropLast, hs.getLast hne, (List.dropLast_concat_getLast hne).symm⟩
  have em : (r ++ [j]).map V.str = r.map V.str ++ [V.str j] := by
    rw [List.map_append]
    rfl
  have lastW : ∀ H1, But1 tp H H1 → Tp H1 tp → (tRet (tOp (rIxL K) (tVar 2) (tUn (rU fun i => .int (-i)) (tC (.int 1))))) { nx := fun x H' => Q V.non H', rt := Q } [some (.ref tp), some (.ref kd), some (.ref hl)] H1 := by
    intro H1 b1 t1
    have h1 : H1 hl = some (.lst (r.map V.str ++ [V.str j])) := by
      rw [← em]
      exact b1 _ _ hn hh
    exact ⟨_, rfl, _, rfl, hl, _, _, _, rfl, rfl, SqL.of h1, atI_last _ _, q j H1 b1 t1 (List.mem_append_right _ List.mem_cons_self)⟩
  refine ⟨_, rfl, kd, _, rfl, gt_straight k1, st, rfl, ?_⟩
  cases st with
  | true => exact itT rfl (iteT (lastW H (But1.refl _ _) g.t))
  | false =>
    refine itF rfl ⟨_, rfl, tp, 3, rfl, g.t, by decide, by decide, fun r1 H1 r10 r11 b1 t1 => ?_⟩
    refine ⟨_, _, rfl, rfl, _, rfl, ?_⟩
    refine ite2 (fun c => lastW H1 b1 t1) (fun c => ?_)
    have h1 : H1 hl = some (.lst ((r ++ [j]).map V.str)) := b1 _ _ hn hh
    have el1 : (((r ++ [j]).map V.str).length : Int) = ((r ++ [j]).length : Int) := by rw [List.length_map]
    have pos : 0 < (r ++ [j]).length := by simp
    refine ⟨_, rfl, _, rfl, _, rfl, hl, _, rfl, .inl (SqL.of h1), tp, _, rfl, t1, by rw [el1]; omega, by rw [el1]; omega, fun r2 H2 r20 r21 b2 t2 => ?_⟩
    obtain ⟨v, hv, hm⟩ := at_some r20 r21
    obtain ⟨z, hz, rfl⟩ := List.mem_map.mp hm
    exact ⟨hl, _, _, _, rfl, rfl, SqL.of (b2 _ _ hn h1), hv, q z H2 (b1.trans b2) t2 hz⟩
end
end KB

namespace KB
open PySem L2

theorem GdS.sm {H : Hp} {a : Addr} {hd : Str → Option Nat} {xs : List Str} {t : Tm} (g : GdS H a 3 2 hd xs t) : SmT hd xs t := ⟨g.g.ok, g.s, g.g.sc, g.g.cn, g.g.dp⟩
section
variable {P : Program} {w : World} {K : PySem.W.Frag} {mg : Str → Option Value} {base : Heap}
/-! ### _law_end -/
def spEnd : Sp := fun vs H Q _ => ∃ (tp kd wl pl ar hl : Addr) (hF : Str → Option Nat) (ws js xs hs : List Str), vs = [.ref tp, .ref kd, .ref ar, .ref hl] ∧ GT H tp kd wl pl hF ws js ∧ Wls H ar xs ∧ xs.length ≤ 1000 ∧ Hls H hl hs ∧ hs ≠ [] ∧ hs.length ≤ 1000 ∧ hl ≠ tp ∧
  ∀ a p H', But1 tp H H' → Tp H' tp → PAt H' p a → okP hF p xs hs → pcnt p = 1 → wP p = [] → jP p = [] → Q (.ref a) H'
abbrev s_law_end : Stmt := top 35
theorem scLend : FnScope ["tape", "known", "around", "hands", "f", "hand", "some", "k"] ["tape", "known", "around", "hands"] (defScope s_law_end) := ⟨rfl, rfl, rfl, by decide +kernel, rfl, by decide +kernel, by decide +kernel⟩
theorem ok_end (T : Txt K mg) {f fg fh fl fs : Addr} {fd gd hd ld sd : FuncData} (F : Fun K "_law_end" "_law_end" s_law_end f fd) (G_law_digit : FnOk P w K mg base CX0 1 fg gd ["tape", "many"] spDig) (R_law_digit : Ref K mg "_law_digit" fg gd ["tape", "many"])
    (G_law_some_hand : FnOk P w K mg base CX0 2 fh hd ["tape", "known", "hands"] spHand) (R_law_some_hand : Ref K mg "_law_some_hand" fh hd ["tape", "known", "hands"]) (G_law_less_one : FnOk P w K mg base CX0 1 fl ld ["around"] spLess) (R_law_less_one : Ref K mg "_law_less_one" fl ld ["around"])
    (G_law_simple : FnOk P w K mg base CX0 5 fs sd ["tape", "around", "deep"] (spSimple 1)) (R_law_simple : Ref K mg "_law_simple" fs sd ["tape", "around", "deep"]) : FnOk P w K mg base CX0 6 f fd ["tape", "known", "around", "hands"] spEnd := by
  refine F.ok scLend (fun vs H Q E h => ?_) (fun cdv A outer s H vs Q E hr h => ?_)
  · obtain ⟨tp, kd, wl, pl, ar, hl, hF, ws, js, xs, hs, rfl, _⟩ := h
    rfl
  obtain ⟨tp, kd, wl, pl, ar, hl, hF, ws, js, xs, hs, rfl, g, hw, hx, hh, hne, hhl, hnt, q⟩ := h
  refine ⟨_, (pss_cons (ps_set (i := 4) scLend.nd rfl (Or.inl rfl) (pe_ix ix_list (pe_dget (hu_of hr) (pv 1) pe_str (fun _ _ => rfl)) (pe_call G_law_digit (hr.mono (by omega)) rfl R_law_digit.m R_law_digit.k R_law_digit.b .nil pass0 (pa_cons (pv 0) (pa_cons (pe_callB call_len_seq (by rfl) T.m_len PySem.boot_len (pa_cons (pe_dget (hu_of hr) (pv 1) pe_str (fun _ _ => rfl)) pa_nil)) pa_nil))) (fun _ _ => rfl)))
    (pss_cons (ps_set (i := 5) scLend.nd rfl (Or.inl rfl) (pe_call G_law_some_hand (hr.mono (by omega)) rfl R_law_some_hand.m R_law_some_hand.k R_law_some_hand.b .nil pass0 (pa_cons (pv 0) (pa_cons (pv 1) (pa_cons (pv 3) pa_nil)))))
    (pss_cons (ps_if (pt_cmpR op_eq (pe_call G_law_digit (hr.mono (by omega)) rfl R_law_digit.m R_law_digit.k R_law_digit.b .nil pass0 (pa_cons (pv 0) (pa_cons pe_int pa_nil))) pe_int (nomark _)) (pss_one (ps_ret (pe_tup (pa_cons pe_str (pa_cons (pv 5) (pa_cons (pe_call G_law_simple (hr.mono (by omega)) rfl R_law_simple.m R_law_simple.k R_law_simple.b .nil pass0 (pa_cons (pv 0) (pa_cons (pv 2) (pa_cons pe_int pa_nil)))) pa_nil)))))) pss_nil)
    (pss_cons (ps_set (i := 6) scLend.nd rfl (Or.inl rfl) (pe_lst pa_nil))
    (pss_cons (ps_for PassesOwn.never rfl (pi_range1 rfl T.m_range (pa_cons (pe_dget (hu_of hr) (pe_dget (hu_of hr) (pv 1) pe_str (fun _ _ => rfl)) (pv 4) (fun _ _ => rfl)) pa_nil)) (pg_name (i := 7) scLend.nd rfl (Or.inl rfl)) (pss_one (ps_if (PW.pt (pw_and (pt_cmpR op_eq (pv 7) pe_int (nomark _)) (pw_and1 (pt_cmpR op_gt (pe_call G_law_digit (hr.mono (by omega)) rfl R_law_digit.m R_law_digit.k R_law_digit.b .nil pass0 (pa_cons (pv 0) (pa_cons pe_int pa_nil))) pe_int (nomark _))))) (pss_one (ps_expr (pe_bm PySem.F.plainAttrs_list PySem.F.slot_list_append PySem.F.type_list_append mt_append (pv 6) (pa_cons (pe_call G_law_less_one (hr.mono (by omega)) rfl R_law_less_one.m R_law_less_one.k R_law_less_one.b .nil pass0 (pa_cons (pv 2) pa_nil)) pa_nil)))) (pss_one (ps_expr (pe_bm PySem.F.plainAttrs_list PySem.F.slot_list_append PySem.F.type_list_append mt_append (pv 6) (pa_cons (pe_call G_law_simple (hr.mono (by omega)) rfl R_law_simple.m R_law_simple.k R_law_simple.b .nil pass0 (pa_cons (pv 0) (pa_cons (pv 2) (pa_cons pe_int pa_nil)))) pa_nil)))))))
    (pss_one (ps_ret (pe_tup (pa_cons pe_str (pa_cons (pv 4) (pa_cons (pe_callTy call_tuple_of (by rfl) T.m_tuple (by decide +kernel) (pa_cons (pv 6) pa_nil)) (pa_cons (pv 5) pa_nil)))))))))))), ?_⟩
  obtain ⟨el, hd', fs, kvs, room, st, k1, _, _, _, _, k3, k4, k5, k6, k7⟩ := g.k
  refine ⟨_, rfl, kd, _, rfl, gt_errands k1, _, rfl, _, rfl, kd, _, rfl, gt_errands k1, el, _, rfl, .inl (SqL.of k3.1), tp, _, rfl, g.t, ?_, ?_, fun r H1 r0 r1 b1 t1 => ?_⟩
  · rw [List.length_map]
    omega
  · rw [List.length_map]
    omega
  have g1 := g.one b1 t1
  have k3' := k3.but b1 g.t
  have nkt := (g.ntk k1 (fun _ z => nomatch z)).1
  have nht := (g.ntk k6 (fun _ z => nomatch z)).1
  obtain ⟨v, hv, hm⟩ := at_some r0 r1
  obtain ⟨fn, hfn, rfl⟩ := List.mem_map.mp hm
  obtain ⟨many, hmany, m0, m4, mF⟩ := k7 fn hfn
  have hwfn := k3.2 fn hfn
  refine ⟨el, _, _, _, rfl, rfl, SqL.of k3'.1, hv, ?_⟩
  -- the hand
  refine ⟨_, rfl, _, rfl, _, rfl, tp, kd, wl, pl, hl, hF, ws, js, hs, rfl, g1, b1 _ _ hnt hh, hne, hhl, hnt, fun j H2 b2 t2 hj => ?_⟩
  have b12 := b1.trans b2
  refine ⟨_, rfl, tp, 2, rfl, t2, by decide, by decide, fun r3 H3 r30 r31 b3 t3 => ⟨rfl, _, rfl, ?_⟩⟩
  have b13 := b12.trans b3
  have w3 := hw.but b13 g.t
  refine ite2 (fun c => ?_) (fun c => ?_)
  · -- a give
    refine ⟨_, rfl, _, rfl, _, rfl, tp, ar, xs, rfl, t3, w3, hx, Nat.le_refl _, fun a t H4 b4 t4 gs => ⟨sz (by show 3 ≤ 100000; decide), fun p5 hp5 => ?_⟩⟩
    have s5 := same_new hp5 (.tup [V.str "give", .str j, .ref a])
    exact q p5 (.give j t) _ ((b13.trans b4).trans (but_same s5)) (t4.same s5) ⟨a, upd_same, (gs hF).g.at_.mono s5⟩ ⟨hj, (gs hF).sm⟩ rfl rfl rfl
  · -- an ask
    refine ⟨sz (by show 0 ≤ 100000; decide), fun sl hsl => ?_⟩
    have s4 := same_new hsl (.lst [])
    have nst : sl ≠ tp := by
      obtain ⟨z, hz⟩ := t3
      exact (ne_of_none hz hsl).symm
    have b14 := b13.trans (but_same s4)
    have t4 := t3.same s4
    have h4 : upd H3 sl (.lst []) sl = some (.lst []) := upd_same
    have frS : H3 sl = none := hsl
    have w4 := w3.but (but_same s4) t3
    have sH4 : Same H3 (upd H3 sl (.lst [])) := s4
    generalize upd H3 sl (.lst []) = H4 at b14 t4 h4 w4 sH4 ⊢
    have nsar : ar ≠ sl := ne_of_none w3.1 frS
    refine ⟨_, rfl, kd, _, rfl, gt_heads (b14 _ _ nkt k1), _, rfl, hd', _, rfl, get_of (b14 _ _ nht k6) hmany, _, rfl, by omega, by omega, ?_⟩
    refine for_range (lo := 0) (n := many.toNat) (fun i σ H' => ∃ o7 vs ts, σ = [some (.ref tp), some (.ref kd), some (.ref ar), some (.ref hl), some (.str fn), some (.str j), some (.ref sl), o7] ∧ (∀ b o, b ≠ tp → b ≠ sl → H4 b = some o → H' b = some o) ∧ Tp H' tp ∧
      H' sl = some (.lst vs) ∧ All2 (RefV H') ts vs ∧ ts.length = i ∧ ∀ t ∈ ts, SmT hF xs t) ⟨_, [], [], rfl, fun _ _ _ _ z => z, t4, h4, trivial, rfl, fun _ z => nomatch z⟩ ?_ ?_
    · rintro i σ H5 hi ⟨o7, vs, ts, rfl, b5, t5, h5, k5s, hlen, hts⟩
      have w5 : Wls H5 ar xs := ⟨b5 _ _ (wls_tp w4.1 t4) nsar w4.1, w4.2⟩
      have hvl := k5s.len
      have put : ∀ (a : Addr) (t : Tm) (H6 : Hp), But1 tp H5 H6 → Tp H6 tp → At H6 t a → SmT hF xs t →
          ∃ l zs y, V.ref sl = .ref l ∧ [V.ref a] = [y] ∧ H6 l = some (.lst zs) ∧ zs.length < sizeLine ∧ ∃ o7 vs ts, ([some (.ref tp), some (.ref kd), some (.ref ar), some (.ref hl), some (.str fn), some (.str j), some (.ref sl), some (.int (0 + (i : Nat)))] : St) = [some (.ref tp), some (.ref kd), some (.ref ar), some (.ref hl), some (.str fn), some (.str j), some (.ref sl), o7] ∧
            (∀ b o, b ≠ tp → b ≠ sl → H4 b = some o → upd H6 l (.lst (zs ++ [y])) b = some o) ∧ Tp (upd H6 l (.lst (zs ++ [y]))) tp ∧ upd H6 l (.lst (zs ++ [y])) sl = some (.lst vs) ∧ All2 (RefV (upd H6 l (.lst (zs ++ [y])))) ts vs ∧ ts.length = i + 1 ∧ ∀ t ∈ ts, SmT hF xs t := by
        intro a t H6 b6 t6 at6 sm
        have h6 := b6 _ _ nst h5
        have tk6 := b6.tk t5
        have tkp : TK H6 (upd H6 sl (.lst (vs ++ [V.ref a]))) := tk_put h6
        refine ⟨sl, vs, .ref a, rfl, rfl, h6, Nat.lt_of_le_of_lt (m := 1000) (by omega) (by decide), _, vs ++ [.ref a], ts ++ [t], rfl, fun b o n1 n2 hb => ?_, ?_, upd_same, ?_, ?_, fun u hu => ?_⟩
        · rw [upd_ne n2]
          exact b6 _ _ n1 (b5 _ _ n1 n2 hb)
        · obtain ⟨z, hz⟩ := t6
          exact ⟨z, by rw [upd_ne nst.symm]; exact hz⟩
        · exact All2.app (k5s.imp fun _ _ z => (z.tk tk6).tk tkp) ⟨⟨a, rfl, at6.tk tkp⟩, trivial⟩
        · rw [List.length_append, hlen]
          rfl
        · rcases List.mem_append.mp hu with z | z
          · exact hts u z
          · rw [List.mem_singleton.mp z]
            exact sm
      refine ⟨_, rfl, rfl, _, rfl, ?_⟩
      by_cases c0 : V.int (0 + (i : Nat)) = V.int 0
      · refine itT (decide_eq_true c0) ⟨_, rfl, tp, 4, rfl, t5, by decide, by decide, fun r6 H6 r60 r61 b6 t6 => ?_⟩
        have h6 := b6 _ _ nst h5
        have w6 := w5.but b6 t5
        refine ⟨_, _, rfl, rfl, _, rfl, ?_⟩
        refine ite2 (fun c2 => ?_) (fun c2 => ?_)
        · refine ⟨_, rfl, .inl ⟨rfl, _, SqL.of h6⟩, _, rfl, ar, xs, rfl, w6, fun a t H7 s7 gd smp => ?_⟩
          exact put a t H7 (b6.trans (but_same s7)) (t6.same s7) (gd hF).at_ ⟨(gd hF).ok, smp, (gd hF).sc, (gd hF).cn, (gd hF).dp⟩
        · exact ⟨_, rfl, .inl ⟨rfl, _, SqL.of h6⟩, _, rfl, _, rfl, tp, ar, xs, rfl, t6, w6, hx, Nat.le_refl _, fun a t H7 b7 t7 gs => put a t H7 (b6.trans b7) t7 (gs hF).g.at_ (gs hF).sm⟩
      · refine itF (decide_eq_false c0) (iteF ?_)
        exact ⟨_, rfl, .inl ⟨rfl, _, SqL.of h5⟩, _, rfl, _, rfl, tp, ar, xs, rfl, t5, w5, hx, Nat.le_refl _, fun a t H7 b7 t7 gs => put a t H7 b7 t7 (gs hF).g.at_ (gs hF).sm⟩
    · rintro σ H5 ⟨o7, vs, ts, rfl, b5, t5, h5, k5s, hlen, hts⟩
      refine ⟨_, rfl, _, rfl, sl, _, rfl, .inl ⟨SqL.of h5, fun p6 hp6 => ⟨_, rfl, sz (by show 4 ≤ 100000; decide), fun p7 hp7 => ?_⟩⟩⟩
      have s6 := same_new hp6 (.tup vs)
      have s7 := same_new hp7 (.tup [V.str "ask", .str fn, .ref p6, .str j])
      have bE : But1 tp H (upd (upd H5 p6 (.tup vs)) p7 (.tup [V.str "ask", .str fn, .ref p6, .str j])) := fun b o nb hb => by
        have h3 := b13 b o nb hb
        exact s7 _ _ (s6 _ _ (b5 b o nb (ne_of_none h3 frS) (sH4 _ _ h3)))
      have hF4 : hF fn = some ts.length := by rw [mF, hlen]
      refine q p7 (.ask fn ts j) _ bE ((t5.same s6).same s7) ⟨p6, vs, upd_same, s7 _ _ upd_same, k5s.imp fun _ _ z => z.tk (tk_same (s6.trans s7))⟩ ⟨hj, hwfn, hF4, by omega, hts⟩ rfl rfl rfl
end
end KB

namespace KB
open PySem L2

theorem lastV {xs : List V} {y : V} : (xs ++ [y])[(xs ++ [y]).length - 1]? = some y := by
  rw [List.length_append, List.length_singleton, Nat.add_sub_cancel, List.getElem?_append_right (Nat.le_refl _), Nat.sub_self]
  rfl
theorem dropV {xs : List V} {y : V} : (xs ++ [y]).dropLast = xs := List.dropLast_concat
theorem GT.popW {H : Hp} {tp kd wl pl : Addr} {hF : Str → Option Nat} {ws js : List Str} {x : Str} (g : GT H tp kd wl pl hF (ws ++ [x]) js) : GT (upd H wl (.lst (ws.map V.str))) tp kd wl pl hF ws js ∧ But3 tp wl pl H (upd H wl (.lst (ws.map V.str))) := by
  have b : But3 tp wl pl H (upd H wl (.lst (ws.map V.str))) := fun b o _ n _ h => by rw [upd_ne n]; exact h
  have hn := wls_tp g.w.1 g.t
  obtain ⟨z, hz⟩ := g.t
  have wn := g.wn
  rw [List.length_append] at wn
  exact ⟨g.step b ⟨z, by rw [upd_ne hn.symm]; exact hz⟩ ⟨upd_same, fun y hy => g.w.2 y (List.mem_append_left _ hy)⟩ ⟨by rw [upd_ne g.wp.symm]; exact g.p.1, g.p.2⟩ (by omega) g.pn, b⟩
theorem GT.popP {H : Hp} {tp kd wl pl : Addr} {hF : Str → Option Nat} {ws js : List Str} {x : Str} (g : GT H tp kd wl pl hF ws (js ++ [x])) : GT (upd H pl (.lst (js.map V.str))) tp kd wl pl hF ws js ∧ But3 tp wl pl H (upd H pl (.lst (js.map V.str))) := by
  have b : But3 tp wl pl H (upd H pl (.lst (js.map V.str))) := fun b o _ _ n h => by rw [upd_ne n]; exact h
  have hn := wls_tp g.p.1 g.t
  obtain ⟨z, hz⟩ := g.t
  have pn := g.pn
  rw [List.length_append] at pn
  exact ⟨g.step b ⟨z, by rw [upd_ne hn.symm]; exact hz⟩ ⟨by rw [upd_ne g.wp]; exact g.w.1, g.w.2⟩ ⟨upd_same, fun y hy => g.p.2 y (List.mem_append_left _ hy)⟩ g.wn (by omega), b⟩
theorem snoc_of {ws : List Str} (h : ws ≠ []) : ∃ r x, ws = r ++ [x] := ⟨ws.dropLast, ws.getLast h, (List.dropLast_concat_getLast h).symm⟩
theorem mapS {ws : List Str} {x : Str} : (ws ++ [x]).map V.str = ws.map V.str ++ [V.str x] := by
  rw [List.map_append]
  rfl
section
variable {P : Program} {w : World} {K : PySem.W.Frag} {mg : Str → Option Value} {base : Heap}
/-! ### _law_part -/
/-- what stands around a part that is to be drawn -/
structure PtIn (H : Hp) (tp kd wl pl ar hl : Addr) (hF : Str → Option Nat) (ws js xs hs : List Str) : Prop where
  g : GT H tp kd wl pl hF ws js
  w : Wls H ar xs
  a1 : ar ≠ wl
  a2 : ar ≠ pl
  h : Hls H hl hs
  h0 : hl ≠ tp
  h1 : hl ≠ wl
  h2 : hl ≠ pl
  ne : hs ≠ []
  wj : ws.length ≤ js.length
  l1 : xs.length + ws.length ≤ 200
  l2 : hs.length + js.length ≤ 200
/-- what is told of a part that was drawn -/
structure PtOut (H H' : Hp) (tp kd wl pl : Addr) (hF : Str → Option Nat) (ws js xs hs : List Str) (n : Nat) (a : Addr) (p : Pt) (ws' js' ls ms : List Str) : Prop where
  b : But3 tp wl pl H H'
  g : GT H' tp kd wl pl hF ws' js'
  wj : ws'.length ≤ js'.length
  e1 : ws = ws' ++ ls.reverse
  e2 : js = js' ++ ms.reverse
  at_ : PAt H' p a
  ok : okP hF p xs hs
  cn : pcnt p ≤ n
  s1 : (wP p).Sublist ls
  s2 : (jP p).Sublist ms
def spPart (n : Nat) : Sp := fun vs H Q _ => ∃ (tp kd wl pl ar hl : Addr) (hF : Str → Option Nat) (ws js xs hs : List Str) (room deep : Int), vs = [.ref tp, .ref kd, .ref ar, .ref hl, .int room, .int deep] ∧ PtIn H tp kd wl pl ar hl hF ws js xs hs ∧ 1 ≤ room ∧ room ≤ 1000 ∧ 0 ≤ deep ∧ deep ≤ n ∧
  ∀ a p H' ws' js' ls ms, PtOut H H' tp kd wl pl hF ws js xs hs room.toNat a p ws' js' ls ms → Q (.ref a) H'
def spPtPrev : Nat → Sp
  | 0 => fun _ _ _ _ => False
  | n + 1 => spPart n
theorem PtIn.step {H H' : Hp} {tp kd wl pl ar hl : Addr} {hF : Str → Option Nat} {ws js ws' js' xs hs : List Str} (I : PtIn H tp kd wl pl ar hl hF ws js xs hs) (b : But3 tp wl pl H H') (g : GT H' tp kd wl pl hF ws' js') (wj : ws'.length ≤ js'.length) (l1 : ws'.length ≤ ws.length) (l2 : js'.length ≤ js.length) : PtIn H' tp kd wl pl ar hl hF ws' js' xs hs := by
  have h1 := I.l1
  have h2 := I.l2
  exact ⟨g, I.w.three b I.g I.a1 I.a2, I.a1, I.a2, b _ _ I.h0 I.h1 I.h2 I.h, I.h0, I.h1, I.h2, I.ne, wj, by omega, by omega⟩
theorem PtIn.one {H H' : Hp} {tp kd wl pl ar hl : Addr} {hF : Str → Option Nat} {ws js xs hs : List Str} (I : PtIn H tp kd wl pl ar hl hF ws js xs hs) (b : But1 tp H H') (t : Tp H' tp) : PtIn H' tp kd wl pl ar hl hF ws js xs hs := I.step b.three (I.g.one b t) I.wj (Nat.le_refl _) (Nat.le_refl _)
theorem PtIn.same {H H' : Hp} {tp kd wl pl ar hl : Addr} {hF : Str → Option Nat} {ws js xs hs : List Str} (I : PtIn H tp kd wl pl ar hl hF ws js xs hs) (s : Same H H') : PtIn H' tp kd wl pl ar hl hF ws js xs hs := I.one (but_same s) (I.g.t.same s)
abbrev s_law_part : Stmt := top 36
theorem scLpart : FnScope ["tape", "known", "around", "hands", "room", "deep", "word", "choice", "shares", "one", "x", "j", "term"] ["tape", "known", "around", "hands", "room", "deep"] (defScope s_law_part) := ⟨rfl, rfl, rfl, by decide +kernel, rfl, by decide +kernel, by decide +kernel⟩
theorem ok_part (T : Txt K mg) (n : Nat) {f fg fh fe fs fq : Addr} {fd gd hd ed sd qd : FuncData} (F : Fun K "_law_part" "_law_part" s_law_part f fd) (G_law_digit : FnOk P w K mg base CX0 1 fg gd ["tape", "many"] spDig) (R_law_digit : Ref K mg "_law_digit" fg gd ["tape", "many"])
    (G_law_some_hand : FnOk P w K mg base CX0 2 fh hd ["tape", "known", "hands"] spHand) (R_law_some_hand : Ref K mg "_law_some_hand" fh hd ["tape", "known", "hands"]) (G_law_end : FnOk P w K mg base CX0 6 fe ed ["tape", "known", "around", "hands"] spEnd) (R_law_end : Ref K mg "_law_end" fe ed ["tape", "known", "around", "hands"])
    (G_law_simple : FnOk P w K mg base CX0 5 fs sd ["tape", "around", "deep"] (spSimple 1)) (R_law_simple : Ref K mg "_law_simple" fs sd ["tape", "around", "deep"]) (G_law_shares : FnOk P w K mg base CX0 2 fq qd ["tape", "room", "many"] spShr) (R_law_shares : Ref K mg "_law_shares" fq qd ["tape", "room", "many"])
    (G_law_part : FnOk P w K mg base CX0 (n + 6) f fd ["tape", "known", "around", "hands", "room", "deep"] (spPtPrev n)) (R_law_part : Ref K mg "_law_part" f fd ["tape", "known", "around", "hands", "room", "deep"]) : FnOk P w K mg base CX0 (n + 7) f fd ["tape", "known", "around", "hands", "room", "deep"] (spPart n) := by
  refine F.ok scLpart (fun vs H Q E h => ?_) (fun cdv A outer s H vs Q E hr h => ?_)
  · obtain ⟨tp, kd, wl, pl, ar, hl, hF, ws, js, xs, hs, room, deep, rfl, _⟩ := h
    rfl
  obtain ⟨tp, kd, wl, pl, ar, hl, hF, ws, js, xs, hs, room, deep, rfl, I, hr1, hr2, hd1, hd2, q⟩ := h
  refine ⟨_, (pss_cons (ps_if (PW.pt (pw_or (pt_cmpR op_lt (pv 4) pe_int (nomark _)) (pw_or1 (pt_cmpR op_eq (pv 5) pe_int (nomark _))))) (pss_one (ps_ret (pe_call G_law_end (hr.mono (by omega)) rfl R_law_end.m R_law_end.k R_law_end.b .nil pass0 (pa_cons (pv 0) (pa_cons (pv 1) (pa_cons (pv 2) (pa_cons (pv 3) pa_nil))))))) pss_nil)
    (pss_cons (ps_set (i := 6) scLpart.nd rfl (Or.inl rfl) (pe_ix ix_list (pe_lst (pa_cons pe_str (pa_cons pe_str (pa_cons pe_str (pa_cons pe_str (pa_cons pe_str (pa_cons pe_str (pa_cons pe_str (pa_cons pe_str pa_nil))))))))) (pe_call G_law_digit (hr.mono (by omega)) rfl R_law_digit.m R_law_digit.k R_law_digit.b .nil pass0 (pa_cons (pv 0) (pa_cons pe_int pa_nil))) (fun _ _ => rfl)))
    (pss_cons (ps_if (pt_cmpR op_eq (pv 6) pe_str (nomark _)) (pss_cons (ps_set (i := 7) scLpart.nd rfl (Or.inl rfl) (pe_call G_law_simple (hr.mono (by omega)) rfl R_law_simple.m R_law_simple.k R_law_simple.b .nil pass0 (pa_cons (pv 0) (pa_cons (pv 2) (pa_cons pe_int pa_nil)))))
    (pss_cons (ps_set (i := 8) scLpart.nd rfl (Or.inl rfl) (pe_call G_law_shares (hr.mono (by omega)) rfl R_law_shares.m R_law_shares.k R_law_shares.b .nil pass0 (pa_cons (pv 0) (pa_cons (pe_op op_sub (pv 4) pe_int) (pa_cons pe_int pa_nil)))))
    (pss_cons (ps_set (i := 9) scLpart.nd rfl (Or.inl rfl) (pe_call G_law_part (hr.mono (by omega)) rfl R_law_part.m R_law_part.k R_law_part.b .nil pass0 (pa_cons (pv 0) (pa_cons (pv 1) (pa_cons (pv 2) (pa_cons (pv 3) (pa_cons (pe_ix ix_list (pv 8) pe_int (fun _ _ => rfl)) (pa_cons (pe_op op_sub (pv 5) pe_int) pa_nil))))))))
    (pss_one (ps_ret (pe_tup (pa_cons pe_str (pa_cons (pv 7) (pa_cons (pv 9) (pa_cons (pe_call G_law_part (hr.mono (by omega)) rfl R_law_part.m R_law_part.k R_law_part.b .nil pass0 (pa_cons (pv 0) (pa_cons (pv 1) (pa_cons (pv 2) (pa_cons (pv 3) (pa_cons (pe_ix ix_list (pv 8) pe_int (fun _ _ => rfl)) (pa_cons (pe_op op_sub (pv 5) pe_int) pa_nil))))))) pa_nil)))))))))) pss_nil)
    (pss_cons (ps_if (pt_cmpR (op_eqD hr.units) (pe_dget (hu_of hr) (pv 1) pe_str (fun _ _ => rfl)) (pe_lst pa_nil) (nomark _)) (pss_one (ps_ret (pe_call G_law_end (hr.mono (by omega)) rfl R_law_end.m R_law_end.k R_law_end.b .nil pass0 (pa_cons (pv 0) (pa_cons (pv 1) (pa_cons (pv 2) (pa_cons (pv 3) pa_nil))))))) pss_nil)
    (pss_cons (ps_set (i := 10) scLpart.nd rfl (Or.inl rfl) (pe_bm0 PySem.F.plainAttrs_list PySem.F.slot_list_pop PySem.F.type_list_pop mt_pop (pe_dget (hu_of hr) (pv 1) pe_str (fun _ _ => rfl))))
    (pss_cons (ps_if (pt_cmpR op_eq (pv 6) pe_str (nomark _)) (pss_cons (ps_set (i := 11) scLpart.nd rfl (Or.inl rfl) (pe_bm0 PySem.F.plainAttrs_list PySem.F.slot_list_pop PySem.F.type_list_pop mt_pop (pe_dget (hu_of hr) (pv 1) pe_str (fun _ _ => rfl))))
    (pss_cons (ps_set (i := 8) scLpart.nd rfl (Or.inl rfl) (pe_call G_law_shares (hr.mono (by omega)) rfl R_law_shares.m R_law_shares.k R_law_shares.b .nil pass0 (pa_cons (pv 0) (pa_cons (pe_op op_sub (pv 4) pe_int) (pa_cons pe_int pa_nil)))))
    (pss_cons (ps_set (i := 9) scLpart.nd rfl (Or.inl rfl) (pe_call G_law_part (hr.mono (by omega)) rfl R_law_part.m R_law_part.k R_law_part.b .nil pass0 (pa_cons (pv 0) (pa_cons (pv 1) (pa_cons (pe_op op_cat (pv 2) (pe_lst (pa_cons (pv 10) pa_nil))) (pa_cons (pv 3) (pa_cons (pe_ix ix_list (pv 8) pe_int (fun _ _ => rfl)) (pa_cons (pe_op op_sub (pv 5) pe_int) pa_nil))))))))
    (Evl.pss_cut (ps_if (pt_cmpR op_eq (pe_call G_law_digit (hr.mono (by omega)) rfl R_law_digit.m R_law_digit.k R_law_digit.b .nil pass0 (pa_cons (pv 0) (pa_cons pe_int pa_nil))) pe_int (nomark _)) (pss_one (ps_set (i := 9) scLpart.nd rfl (Or.inl rfl) (pe_tup (pa_cons pe_str (pa_cons (pe_call G_law_some_hand (hr.mono (by omega)) rfl R_law_some_hand.m R_law_some_hand.k R_law_some_hand.b .nil pass0 (pa_cons (pv 0) (pa_cons (pv 1) (pa_cons (pv 3) pa_nil)))) (pa_cons (pe_tup (pa_cons pe_str (pa_cons (pv 10) pa_nil))) pa_nil)))))) pss_nil)
    (pss_one (ps_ret (pe_tup (pa_cons pe_str (pa_cons (pv 11) (pa_cons (pv 10) (pa_cons (pv 9) (pa_cons (pe_call G_law_part (hr.mono (by omega)) rfl R_law_part.m R_law_part.k R_law_part.b .nil pass0 (pa_cons (pv 0) (pa_cons (pv 1) (pa_cons (pv 2) (pa_cons (pe_op op_cat (pv 3) (pe_lst (pa_cons (pv 11) pa_nil))) (pa_cons (pe_ix ix_list (pv 8) pe_int (fun _ _ => rfl)) (pa_cons (pe_op op_sub (pv 5) pe_int) pa_nil))))))) pa_nil)))))))))))) pss_nil)
    (pss_cons (ps_set (i := 12) scLpart.nd rfl (Or.inl rfl) (pe_call G_law_simple (hr.mono (by omega)) rfl R_law_simple.m R_law_simple.k R_law_simple.b .nil pass0 (pa_cons (pv 0) (pa_cons (pv 2) (pa_cons pe_int pa_nil)))))
    (pss_one (ps_ret (pe_tup (pa_cons (pv 6) (pa_cons (pv 10) (pa_cons (pv 12) (pa_cons (pe_call G_law_part (hr.mono (by omega)) rfl R_law_part.m R_law_part.k R_law_part.b .nil pass0 (pa_cons (pv 0) (pa_cons (pv 1) (pa_cons (pe_op op_cat (pv 2) (pe_lst (pa_cons (pv 10) pa_nil))) (pa_cons (pv 3) (pa_cons (pe_op op_sub (pv 4) pe_int) (pa_cons (pe_op op_sub (pv 5) pe_int) pa_nil))))))) pa_nil)))))))))))))), ?_⟩
  have l1 := I.l1
  have l2 := I.l2
  have endW : ∀ (H1 : Hp) (s6 : Option V), But3 tp wl pl H H1 → PtIn H1 tp kd wl pl ar hl hF ws js xs hs → (tRet (tCall spEnd [] E0 (tCons (tVar 0) (tCons (tVar 1) (tCons (tVar 2) (tCons (tVar 3) tNil)))))) { nx := fun x H' => Q V.non H', rt := Q }
      [some (.ref tp), some (.ref kd), some (.ref ar), some (.ref hl), some (.int room), some (.int deep), s6, none, none, none, none, none, none] H1 := by
    intro H1 s6 b1 I1
    refine ⟨_, rfl, _, rfl, _, rfl, _, rfl, tp, kd, wl, pl, ar, hl, hF, ws, js, xs, hs, rfl, I1.g, I1.w, by omega, I1.h, I1.ne, by omega, I1.h0, fun a p H2 b2 t2 pa ok c1 c2 c3 => ?_⟩
    exact q a p H2 ws js [] [] ⟨b1.trans b2.three, I1.g.one b2 t2, I1.wj, (List.append_nil ws).symm, (List.append_nil js).symm, pa, ok, by omega, by rw [c2]; exact .slnil, by rw [c3]; exact .slnil⟩
  refine ⟨_, rfl, _, _, rfl, rfl, _, rfl, ?_⟩
  refine ite2 (fun c => iteT (endW H none (But3.refl _ _ _ _) I)) (fun c => ?_)
  have hroom : 3 ≤ room := by
    have : ¬ room < 3 := fun z => c (decide_eq_true z)
    omega
  refine ⟨_, rfl, rfl, _, rfl, ?_⟩
  refine ite2 (fun c2 => endW H none (But3.refl _ _ _ _) I) (fun c2 => ?_)
  have hdeep : deep ≠ 0 := fun z => c2 (decide_eq_true (by rw [z]))
  cases n with
  | zero => exact absurd (by omega : deep = 0) hdeep
  | succ n =>
  refine ⟨sz (by show 8 ≤ 100000; decide), fun p1 hp1 => ?_⟩
  have s1 := same_new hp1 (.lst [V.str "tell", .str "let", .str "if", .str "if", .str "post", .str "post", .str "post", .str "post"])
  have I1 := I.same s1
  have n1 := (I.g.new hp1).1
  refine ⟨_, rfl, tp, 8, rfl, I1.g.t, by decide, by decide, fun r H2 r0 r1 b2 t2 => ?_⟩
  obtain ⟨v, hv, hm⟩ := at_some (xs := [V.str "tell", .str "let", .str "if", .str "if", .str "post", .str "post", .str "post", .str "post"]) r0 r1
  have I2 := I1.one b2 t2
  have B2 : But3 tp wl pl H H2 := (but3_same s1).trans b2.three
  refine ⟨p1, _, _, _, rfl, rfl, SqL.of (b2 _ _ n1 upd_same), hv, ?_⟩
  have hcase : v = .str "if" ∨ v = .str "post" ∨ v = .str "tell" ∨ v = .str "let" := by
    simp only [List.mem_cons, List.not_mem_nil, or_false] at hm
    rcases hm with z | z | z | z | z | z | z | z
    · exact .inr (.inr (.inl z))
    · exact .inr (.inr (.inr z))
    · exact .inl z
    · exact .inl z
    · exact .inr (.inl z)
    · exact .inr (.inl z)
    · exact .inr (.inl z)
    · exact .inr (.inl z)
  rcases hcase with rfl | rest
  · -- if
    refine ⟨_, rfl, rfl, _, rfl, itT rfl ?_⟩
    refine ⟨_, rfl, _, rfl, tp, ar, xs, rfl, I2.g.t, I2.w, by omega, Nat.le_refl _, fun a3 u3 H3 b3 t3 gs => ?_⟩
    have I3 := I2.one b3 t3
    refine ⟨_, rfl, _, rfl, _, _, rfl, rfl, tp, room - 1, 2, rfl, t3, by decide, by omega, by omega, fun sp ss H4 b4 t4 fr4 h4 hl4 pos4 sum4 => ?_⟩
    have I4 := I3.one b4 t4
    obtain ⟨y0, y1, rfl⟩ : ∃ y0 y1, ss = [y0, y1] := by
      match ss, hl4 with
      | [y0, y1], _ => exact ⟨y0, y1, rfl⟩
      | [], z => cases z
      | [_], z => cases z
      | _ :: _ :: _ :: _, z => simp at z; omega
    have py0 := pos4 y0 List.mem_cons_self
    have py1 := pos4 y1 (List.mem_cons_of_mem _ List.mem_cons_self)
    have sy : y0 + y1 ≤ room - 1 := by
      have : y0 + (y1 + 0) ≤ room - 1 := sum4
      omega
    have ns := I3.g.new fr4
    refine ⟨_, rfl, _, rfl, _, rfl, _, rfl, _, rfl, sp, _, _, _, rfl, rfl, SqL.of h4, at0, _, rfl, _, _, rfl, rfl, tp, kd, wl, pl, ar, hl, hF, ws, js, xs, hs, y0, deep - 1, rfl, I4, py0, by omega, by omega, by omega, fun a5 q5 H5 ws5 js5 ls5 ms5 O5 => ?_⟩
    have le1 : ws5.length ≤ ws.length := by
      rw [O5.e1, List.length_append]
      omega
    have le2 : js5.length ≤ js.length := by
      rw [O5.e2, List.length_append]
      omega
    have I5 := I4.step O5.b O5.g O5.wj le1 le2
    have h5 := O5.b _ _ ns.1 ns.2.1 ns.2.2 h4
    refine ⟨_, rfl, _, rfl, _, rfl, _, rfl, _, rfl, _, rfl, _, rfl, sp, _, _, _, rfl, rfl, SqL.of h5, at1, _, rfl, _, _, rfl, rfl, tp, kd, wl, pl, ar, hl, hF, ws5, js5, xs, hs, y1, deep - 1, rfl, I5, py1, by omega, by omega, by omega, fun a6 q6 H6 ws6 js6 ls6 ms6 O6 => ?_⟩
    refine ⟨sz (by show 4 ≤ 100000; decide), fun p7 hp7 => ?_⟩
    have s7 := same_new hp7 (.tup [V.str "if", .ref a3, .ref a5, .ref a6])
    have b34 : But3 tp wl pl H3 H6 := (b4.three.trans O5.b).trans O6.b
    have k36 : TK H3 H6 := I3.g.tk b34
    have k56 : TK H5 H6 := I5.g.tk O6.b
    have B6 : But3 tp wl pl H H6 := (B2.trans b3.three).trans b34
    refine q p7 (.iff u3 q5 q6) _ ws6 js6 (ls5 ++ ls6) (ms5 ++ ms6) ⟨B6.trans (but3_same s7), O6.g.same s7, O6.wj, ?_, ?_, ⟨a3, a5, a6, upd_same, ((gs hF).g.at_.tk k36).mono s7, (O5.at_.tk k56).tk (tk_same s7), O6.at_.tk (tk_same s7)⟩, ⟨(gs hF).sm, O5.ok, O6.ok⟩, ?_, O5.s1.append O6.s1, O5.s2.append O6.s2⟩
    · rw [List.reverse_append, ← List.append_assoc, ← O6.e1]
      exact O5.e1
    · rw [List.reverse_append, ← List.append_assoc, ← O6.e2]
      exact O5.e2
    · have c5 := O5.cn
      have c6 := O6.cn
      show 1 + pcnt q5 + pcnt q6 ≤ room.toNat
      omega
  obtain ⟨wd, rfl, hwd⟩ : ∃ wd : Str, v = .str wd ∧ (wd = "post" ∨ wd = "tell" ∨ wd = "let") := by
    rcases rest with z | z | z
    · exact ⟨_, z, .inl rfl⟩
    · exact ⟨_, z, .inr (.inl rfl)⟩
    · exact ⟨_, z, .inr (.inr rfl)⟩
  have hnif : decide (V.str wd = V.str (Str.ofString "if")) = false := by
    rcases hwd with rfl | rfl | rfl <;> rfl
  refine ⟨_, rfl, rfl, _, rfl, itF hnif ?_⟩
  clear rest hv hm
  obtain ⟨el, hd', fs', kvs, rm, st, k2, _⟩ := I2.g.k
  refine ⟨_, rfl, kd, _, rfl, gt_words k2, sz (by show 0 ≤ 100000; decide), fun p0 hp0 => ?_⟩
  have s3 := same_new hp0 (.lst [])
  refine ⟨.list (ws.map PyData.str), .list [], .lst (SqL.of (s3 _ _ I2.g.w.1)) (dp_strs ws), .lst (SqL.of upd_same) .nil, shaped_strs I2.g.w.2, rfl, _, rfl, ?_⟩
  rw [eqv_nil]
  have I3 := I2.same s3
  have B3 := B2.trans (but3_same (tp := tp) (wl := wl) (pl := pl) s3)
  have k3 := s3 _ _ k2
  generalize upd H2 p0 (.lst []) = H3 at I3 B3 k3 ⊢
  by_cases hws : ws = []
  · exact itT (by rw [hws]; rfl) (endW H3 _ B3 I3)
  refine itF (by cases ws with | nil => exact absurd rfl hws | cons _ _ => rfl) ?_
  obtain ⟨wsx, x, rfl⟩ := snoc_of hws
  have hxW : isW x = true := I.g.w.2 x (List.mem_append_right _ List.mem_cons_self)
  have gw := I3.g.w.1
  rw [mapS] at gw
  refine ⟨_, rfl, kd, _, rfl, gt_words k3, .inl ⟨rfl, _, SqL.of gw⟩, wl, _, _, rfl, rfl, gw, lastV, ?_⟩
  rw [dropV]
  obtain ⟨g4, b4⟩ := I3.g.popW
  have wj := I.wj
  rw [List.length_append] at wj
  have wj : wsx.length + 1 ≤ js.length := wj
  have lx : (wsx ++ [x]).length = wsx.length + 1 := by rw [List.length_append]; rfl
  have I4 := I3.step b4 g4 (by omega) (by omega) (Nat.le_refl _)
  have B4 := B3.trans b4
  have k4 : (upd H3 wl (.lst (wsx.map V.str))) kd = some (.dK (knT el hd' wl pl rm st)) := by
    obtain ⟨n1, n2, n3⟩ := I3.g.ntk k3 (fun _ z => nomatch z)
    exact b4 _ _ n1 n2 n3 k3
  generalize upd H3 wl (.lst (wsx.map V.str)) = H4 at g4 b4 I4 B4 k4 ⊢
  -- what is around with one word more
  have moreW : ∀ {H5 : Hp} {ws5 js5 : List Str} (I5 : PtIn H5 tp kd wl pl ar hl hF ws5 js5 xs hs) (hw5 : ws5.length ≤ wsx.length) {p6 p7 : Addr} (hp6 : H5 p6 = none) (hp7 : upd H5 p6 (.lst [V.str x]) p7 = none),
      PtIn (upd (upd H5 p6 (.lst [V.str x])) p7 (.lst (xs.map V.str ++ [V.str x]))) tp kd wl pl p7 hl hF ws5 js5 (xs ++ [x]) hs := by
    intro H5 ws5 js5 I5 hw5 p6 p7 hp6 hp7
    have s6 := same_new hp6 (.lst [V.str x])
    have s7 := same_new hp7 (.lst (xs.map V.str ++ [V.str x]))
    have I7 := I5.same (s6.trans s7)
    have nn := (I5.same s6).g.new hp7
    have e7 := I7.l2
    refine ⟨I7.g, ⟨by rw [upd_same, mapS], fun y hy => ?_⟩, nn.2.1, nn.2.2, I7.h, I7.h0, I7.h1, I7.h2, I7.ne, I7.wj, ?_, e7⟩
    · rcases List.mem_append.mp hy with z | z
      · exact I.w.2 y z
      · rw [List.mem_singleton.mp z]
        exact hxW
    · rw [List.length_append, List.length_singleton]
      omega
  by_cases hpost : wd = "post"
  · subst hpost
    refine ⟨_, rfl, rfl, _, rfl, itT rfl ?_⟩
    obtain ⟨jsx, j, rfl⟩ := snoc_of (ws := js) (fun z => by rw [z] at wj; cases wj)
    have hjW : isW j = true := I.g.p.2 j (List.mem_append_right _ List.mem_cons_self)
    have lj : (jsx ++ [j]).length = jsx.length + 1 := by rw [List.length_append]; rfl
    have gp := I4.g.p.1
    rw [mapS] at gp
    refine ⟨_, rfl, kd, _, rfl, gt_posts k4, .inl ⟨rfl, _, SqL.of gp⟩, pl, _, _, rfl, rfl, gp, lastV, ?_⟩
    rw [dropV]
    obtain ⟨g5, b5⟩ := I4.g.popP
    have I5 := I4.step b5 g5 (by omega) (Nat.le_refl _) (by omega)
    have B5 := B4.trans b5
    generalize upd H4 pl (.lst (jsx.map V.str)) = H5 at g5 b5 I5 B5 ⊢
    refine ⟨_, rfl, _, rfl, _, _, rfl, rfl, tp, room - 1, 2, rfl, I5.g.t, by decide, by omega, by omega, fun sp ss H6 b6 t6 fr6 h6 hl6 pos6 sum6 => ?_⟩
    have I6 := I5.one b6 t6
    obtain ⟨y0, y1, rfl⟩ : ∃ y0 y1, ss = [y0, y1] := by
      match ss, hl6 with
      | [y0, y1], _ => exact ⟨y0, y1, rfl⟩
      | [], z => cases z
      | [_], z => cases z
      | _ :: _ :: _ :: _, z => simp at z; omega
    have py0 := pos6 y0 List.mem_cons_self
    have py1 := pos6 y1 (List.mem_cons_of_mem _ List.mem_cons_self)
    have sy : y0 + y1 ≤ room - 1 := by
      have : y0 + (y1 + 0) ≤ room - 1 := sum6
      omega
    have ns := I5.g.new fr6
    -- T
    refine ⟨_, rfl, _, rfl, _, rfl, _, rfl, sz (by show 1 ≤ 100000; decide), fun p7 hp7 => ?_⟩
    have s7 := same_new hp7 (.lst [V.str x])
    refine ⟨ar, p7, _, _, rfl, rfl, s7 _ _ I6.w.1, upd_same, sz (by rw [List.length_map]; show xs.length + 1 ≤ 100000; omega), fun p8 hp8 => ?_⟩
    have s8 := same_new hp8 (.lst (xs.map V.str ++ [V.str x]))
    have I8 := moreW I6 (Nat.le_refl _) hp7 hp8
    have h8 := s8 _ _ (s7 _ _ h6)
    have s68 := s7.trans s8
    generalize upd (upd H6 p7 (.lst [V.str x])) p8 (.lst (xs.map V.str ++ [V.str x])) = H8 at I8 h8 s68 ⊢
    refine ⟨_, rfl, _, rfl, sp, _, _, _, rfl, rfl, SqL.of h8, at0, _, rfl, _, _, rfl, rfl, tp, kd, wl, pl, p8, hl, hF, wsx, jsx, xs ++ [x], hs, y0, deep - 1, rfl, I8, py0, by omega, by omega, by omega, fun a9 q9 H9 ws9 js9 ls9 ms9 O9 => ?_⟩
    have le1 : ws9.length ≤ wsx.length := by
      rw [O9.e1, List.length_append]
      omega
    have le2 : js9.length ≤ jsx.length := by
      rw [O9.e2, List.length_append]
      omega
    have b69 : But3 tp wl pl H6 H9 := (but3_same s68).trans O9.b
    have I9 := I6.step b69 O9.g O9.wj le1 le2
    have h9 := O9.b _ _ ns.1 ns.2.1 ns.2.2 h8
    refine ⟨fun σ' H' => ∃ a q, σ' = [some (.ref tp), some (.ref kd), some (.ref ar), some (.ref hl), some (.int room), some (.int deep), some (.str "post"), none, some (.ref sp), some (.ref a), some (.str x), some (.str j), none] ∧ But3 tp wl pl H9 H' ∧ PtIn H' tp kd wl pl ar hl hF ws9 js9 xs hs ∧
      H' sp = some (.lst ([y0, y1].map V.int)) ∧ PAt H' q a ∧ okP hF q (xs ++ [x]) hs ∧ pcnt q ≤ y0.toNat ∧ (wP q).Sublist ls9 ∧ (jP q).Sublist ms9, ?_, ?_⟩
    · refine ⟨_, rfl, tp, 8, rfl, I9.g.t, by decide, by decide, fun r10 H10 r100 r101 b10 t10 => ⟨rfl, _, rfl, ?_⟩⟩
      have I10 := I9.one b10 t10
      have h10 := b10 _ _ ns.1 h9
      refine ite2 (fun c => ?_) (fun c => ?_)
      · refine ⟨_, rfl, _, rfl, _, rfl, tp, kd, wl, pl, hl, hF, ws9, js9, hs, rfl, I10.g, I10.h, I10.ne, by have := I10.l2; omega, I10.h0, fun jj H11 b11 t11 hjj => ?_⟩
        have I11 := I10.one b11 t11
        refine ⟨_, rfl, sz (by show 2 ≤ 100000; decide), fun p12 hp12 => ⟨sz (by show 3 ≤ 100000; decide), fun p13 hp13 => ?_⟩⟩
        have s12 := same_new hp12 (.tup [V.str "name", .str x])
        have s13 := same_new hp13 (.tup [V.str "give", .str jj, .ref p12])
        have gn : Gd (upd (upd H11 p12 (.tup [V.str "name", .str x])) p13 (.tup [V.str "give", .str jj, .ref p12])) p12 1 1 hF (xs ++ [x]) [] (mkL (.nam x) []) := gd_nam ⟨rfl, s13 _ _ upd_same⟩ hxW (List.mem_append_right _ List.mem_cons_self)
        refine ⟨p13, .give jj (mkL (.nam x) []), rfl, ((b10.three.trans b11.three).trans (but3_same s12)).trans (but3_same s13), (I11.same s12).same s13, s13 _ _ (s12 _ _ (b11 _ _ ns.1 h10)), ⟨p12, upd_same, gn.at_⟩, ⟨hjj, gn.ok, simple_mkL rfl (fun _ z => nomatch z), gn.sc, Nat.le_trans gn.cn (by decide), gn.dp.le (by decide)⟩, by show 1 ≤ y0.toNat; omega, List.nil_sublist _, List.nil_sublist _⟩
      · exact ⟨a9, q9, rfl, b10.three, I10, h10, O9.at_.tk (b10.tk I9.g.t), O9.ok, O9.cn, O9.s1, O9.s2⟩
    rintro σ10 H10 ⟨a10, q10, rfl, b10, I10, h10, pa10, ok10, cn10, su10, sj10⟩
    -- U
    refine ⟨_, rfl, _, rfl, _, rfl, _, rfl, _, rfl, _, rfl, _, rfl, _, rfl, sz (by show 1 ≤ 100000; decide), fun p11 hp11 => ?_⟩
    have s11 := same_new hp11 (.lst [V.str j])
    refine ⟨hl, p11, _, _, rfl, rfl, s11 _ _ I10.h, upd_same, sz (by rw [List.length_map]; show hs.length + 1 ≤ 100000; omega), fun p12 hp12 => ?_⟩
    have s12 := same_new hp12 (.lst (hs.map V.str ++ [V.str j]))
    have I12 := I10.same (s11.trans s12)
    have nn := (I10.same s11).g.new hp12
    have hH : (upd (upd H10 p11 (.lst [V.str j])) p12 (.lst (hs.map V.str ++ [V.str j]))) p12 = some (.lst ((hs ++ [j]).map V.str)) := by
      rw [upd_same, mapS]
    have h12 := s12 _ _ (s11 _ _ h10)
    have s1012 := s11.trans s12
    generalize upd (upd H10 p11 (.lst [V.str j])) p12 (.lst (hs.map V.str ++ [V.str j])) = H12 at I12 hH h12 s1012 ⊢
    have J12 : PtIn H12 tp kd wl pl ar p12 hF ws9 js9 xs (hs ++ [j]) := ⟨I12.g, I12.w, I12.a1, I12.a2, hH, nn.1, nn.2.1, nn.2.2, by simp, I12.wj, I12.l1, by rw [List.length_append, List.length_singleton]; omega⟩
    refine ⟨_, rfl, sp, _, _, _, rfl, rfl, SqL.of h12, at1, _, rfl, _, _, rfl, rfl, tp, kd, wl, pl, ar, p12, hF, ws9, js9, xs, hs ++ [j], y1, deep - 1, rfl, J12, py1, by omega, by omega, by omega, fun a13 q13 H13 ws13 js13 ls13 ms13 O13 => ?_⟩
    refine ⟨sz (by show 5 ≤ 100000; decide), fun p14 hp14 => ?_⟩
    have s14 := same_new hp14 (.tup [V.str "post", .str j, .str x, .ref a10, .ref a13])
    have k1013 : TK H10 H13 := (tk_same s1012).trans (I12.g.tk O13.b)
    have BE : But3 tp wl pl H H13 := (((B5.trans b6.three).trans b69).trans b10).trans ((but3_same s1012).trans O13.b)
    refine q p14 (.post j x q10 q13) _ ws13 js13 (x :: (ls9 ++ ls13)) (j :: (ms9 ++ ms13)) ⟨BE.trans (but3_same s14), O13.g.same s14, O13.wj, ?_, ?_, ⟨a10, a13, upd_same, (pa10.tk k1013).tk (tk_same s14), O13.at_.tk (tk_same s14)⟩, ⟨hjW, hxW, ok10, O13.ok⟩, ?_, (su10.append O13.s1).cons_cons x, (sj10.append O13.s2).cons_cons j⟩
    · rw [O9.e1, O13.e1]
      simp
    · rw [O9.e2, O13.e2]
      simp
    · have c13 := O13.cn
      show 1 + pcnt q10 + pcnt q13 ≤ room.toNat
      omega
  · have hnp : decide (V.str wd = V.str (Str.ofString "post")) = false := decide_eq_false fun z => hpost (V.str.inj z)
    refine ⟨_, rfl, rfl, _, rfl, itF hnp ?_⟩
    have hwd2 : wd = "tell" ∨ wd = "let" := hwd.resolve_left hpost
    refine ⟨_, rfl, _, rfl, tp, ar, xs, rfl, I4.g.t, I4.w, by omega, Nat.le_refl _, fun a5 u5 H5 b5 t5 gs => ?_⟩
    have I5 := I4.one b5 t5
    refine ⟨_, rfl, _, rfl, _, rfl, _, rfl, _, rfl, _, rfl, _, rfl, sz (by show 1 ≤ 100000; decide), fun p7 hp7 => ?_⟩
    have s7 := same_new hp7 (.lst [V.str x])
    refine ⟨ar, p7, _, _, rfl, rfl, s7 _ _ I5.w.1, upd_same, sz (by rw [List.length_map]; show xs.length + 1 ≤ 100000; omega), fun p8 hp8 => ?_⟩
    have s8 := same_new hp8 (.lst (xs.map V.str ++ [V.str x]))
    have I8 := moreW I5 (Nat.le_refl _) hp7 hp8
    have s58 := s7.trans s8
    generalize upd (upd H5 p7 (.lst [V.str x])) p8 (.lst (xs.map V.str ++ [V.str x])) = H8 at I8 s58 ⊢
    refine ⟨_, rfl, _, rfl, _, _, rfl, rfl, _, rfl, _, _, rfl, rfl, tp, kd, wl, pl, p8, hl, hF, wsx, js, xs ++ [x], hs, room - 1, deep - 1, rfl, I8, by omega, by omega, by omega, by omega, fun a9 q9 H9 ws9 js9 ls9 ms9 O9 => ?_⟩
    refine ⟨sz (by show 4 ≤ 100000; decide), fun p14 hp14 => ?_⟩
    have s14 := same_new hp14 (.tup [V.str wd, .str x, .ref a5, .ref a9])
    have k59 : TK H5 H9 := (tk_same s58).trans (I8.g.tk O9.b)
    have BE : But3 tp wl pl H H9 := ((B4.trans b5.three).trans (but3_same s58)).trans O9.b
    have hatT := ((gs hF).g.at_.tk k59).tk (tk_same s14)
    have hatP := O9.at_.tk (tk_same s14)
    have e1 : wsx ++ [x] = ws9 ++ (x :: ls9).reverse := by
      rw [O9.e1]
      simp
    have hc : 1 + pcnt q9 ≤ room.toNat := by
      have := O9.cn
      omega
    rcases hwd2 with rfl | rfl
    · exact q p14 (.tell x u5 q9) _ ws9 js9 (x :: ls9) ms9 ⟨BE.trans (but3_same s14), O9.g.same s14, O9.wj, e1, O9.e2, ⟨a5, a9, upd_same, hatT, hatP⟩, ⟨hxW, (gs hF).sm, O9.ok⟩, hc, O9.s1.cons_cons x, O9.s2⟩
    · exact q p14 (.lett x u5 q9) _ ws9 js9 (x :: ls9) ms9 ⟨BE.trans (but3_same s14), O9.g.same s14, O9.wj, e1, O9.e2, ⟨a5, a9, upd_same, hatT, hatP⟩, ⟨hxW, (gs hF).sm, O9.ok⟩, hc, O9.s1.cons_cons x, O9.s2⟩
end
end KB

namespace KB
open PySem L2

section
variable {P : Program} {w : World} {K : PySem.W.Frag} {mg : Str → Option Value} {base : Heap}
theorem all_part (T : Txt K mg) {f fg fh fe fs fq : Addr} {fd gd hd ed sd qd : FuncData} (F : Fun K "_law_part" "_law_part" s_law_part f fd) (G_law_digit : FnOk P w K mg base CX0 1 fg gd ["tape", "many"] spDig) (R_law_digit : Ref K mg "_law_digit" fg gd ["tape", "many"])
    (G_law_some_hand : FnOk P w K mg base CX0 2 fh hd ["tape", "known", "hands"] spHand) (R_law_some_hand : Ref K mg "_law_some_hand" fh hd ["tape", "known", "hands"]) (G_law_end : FnOk P w K mg base CX0 6 fe ed ["tape", "known", "around", "hands"] spEnd) (R_law_end : Ref K mg "_law_end" fe ed ["tape", "known", "around", "hands"])
    (G_law_simple : FnOk P w K mg base CX0 5 fs sd ["tape", "around", "deep"] (spSimple 1)) (R_law_simple : Ref K mg "_law_simple" fs sd ["tape", "around", "deep"]) (G_law_shares : FnOk P w K mg base CX0 2 fq qd ["tape", "room", "many"] spShr) (R_law_shares : Ref K mg "_law_shares" fq qd ["tape", "room", "many"])
    (R_law_part : Ref K mg "_law_part" f fd ["tape", "known", "around", "hands", "room", "deep"]) : ∀ n : Nat, FnOk P w K mg base CX0 (n + 7) f fd ["tape", "known", "around", "hands", "room", "deep"] (spPart n)
  | 0 => ok_part T 0 F G_law_digit R_law_digit G_law_some_hand R_law_some_hand G_law_end R_law_end G_law_simple R_law_simple G_law_shares R_law_shares no_sp R_law_part
  | n + 1 => ok_part T (n + 1) F G_law_digit R_law_digit G_law_some_hand R_law_some_hand G_law_end R_law_end G_law_simple R_law_simple G_law_shares R_law_shares (all_part T F G_law_digit R_law_digit G_law_some_hand R_law_some_hand G_law_end R_law_end G_law_simple R_law_simple G_law_shares R_law_shares R_law_part n) R_law_part
/-! ### _law_turned_body -/
def spTBody : Sp := fun vs H Q _ => ∃ (tp kd wl pl nl : Addr) (hF : Str → Option Nat) (ws js xs : List Str), vs = [.ref tp, .ref kd, .ref nl] ∧ GT H tp kd wl pl hF ws js ∧ Wls H nl xs ∧ nl ≠ wl ∧ nl ≠ pl ∧ ws.length ≤ js.length ∧ xs.length + ws.length ≤ 100 ∧ js.length ≤ 100 ∧
  ∀ a p H' ws' js' ls ms, PtOut H H' tp kd wl pl hF ws js xs ["home"] 13 a p ws' js' ls ms → Q (.ref a) H'
theorem PtOut.le {H H' : Hp} {tp kd wl pl : Addr} {hF : Str → Option Nat} {ws js xs hs : List Str} {n m : Nat} {a : Addr} {p : Pt} {ws' js' ls ms : List Str} (h : n ≤ m) (O : PtOut H H' tp kd wl pl hF ws js xs hs n a p ws' js' ls ms) : PtOut H H' tp kd wl pl hF ws js xs hs m a p ws' js' ls ms :=
  ⟨O.b, O.g, O.wj, O.e1, O.e2, O.at_, O.ok, Nat.le_trans O.cn h, O.s1, O.s2⟩
theorem PtOut.pre {H0 H H' : Hp} {tp kd wl pl : Addr} {hF : Str → Option Nat} {ws js xs hs : List Str} {n : Nat} {a : Addr} {p : Pt} {ws' js' ls ms : List Str} (b : But3 tp wl pl H0 H) (O : PtOut H H' tp kd wl pl hF ws js xs hs n a p ws' js' ls ms) : PtOut H0 H' tp kd wl pl hF ws js xs hs n a p ws' js' ls ms :=
  ⟨b.trans O.b, O.g, O.wj, O.e1, O.e2, O.at_, O.ok, O.cn, O.s1, O.s2⟩
abbrev s_law_turned_body : Stmt := top 37
theorem scLturned_body : FnScope ["tape", "known", "names", "one", "two"] ["tape", "known", "names"] (defScope s_law_turned_body) := ⟨rfl, rfl, rfl, by decide +kernel, rfl, by decide +kernel, by decide +kernel⟩
theorem ok_tbody (T : Txt K mg) {f fg fp : Addr} {fd gd pd_ : FuncData} (F : Fun K "_law_turned_body" "_law_turned_body" s_law_turned_body f fd) (G_law_digit : FnOk P w K mg base CX0 1 fg gd ["tape", "many"] spDig) (R_law_digit : Ref K mg "_law_digit" fg gd ["tape", "many"])
    (G_law_part : FnOk P w K mg base CX0 15 fp pd_ ["tape", "known", "around", "hands", "room", "deep"] (spPart 8)) (R_law_part : Ref K mg "_law_part" fp pd_ ["tape", "known", "around", "hands", "room", "deep"]) : FnOk P w K mg base CX0 16 f fd ["tape", "known", "names"] spTBody := by
  refine F.ok scLturned_body (fun vs H Q E h => ?_) (fun cdv A outer s H vs Q E hr h => ?_)
  · obtain ⟨tp, kd, wl, pl, nl, hF, ws, js, xs, rfl, _⟩ := h
    rfl
  obtain ⟨tp, kd, wl, pl, nl, hF, ws, js, xs, rfl, g, hw, n1, n2, wj, l1, l2, q⟩ := h
  refine ⟨_, (pss_cons (ps_if (PW.pt (pw_and (pt_cmpR (op_neD hr.units) (pv 2) (pe_lst pa_nil) (nomark _)) (pw_and1 (pt_cmpR op_gt (pe_call G_law_digit (hr.mono (by omega)) rfl R_law_digit.m R_law_digit.k R_law_digit.b .nil pass0 (pa_cons (pv 0) (pa_cons pe_int pa_nil))) pe_int (nomark _))))) (pss_cons (ps_set (i := 3) scLturned_body.nd rfl (Or.inl rfl) (pe_call G_law_part (hr.mono (by omega)) rfl R_law_part.m R_law_part.k R_law_part.b .nil pass0 (pa_cons (pv 0) (pa_cons (pv 1) (pa_cons (pv 2) (pa_cons (pe_lst (pa_cons pe_str pa_nil)) (pa_cons (pe_dget (hu_of hr) (pv 1) pe_str (fun _ _ => rfl)) (pa_cons pe_int pa_nil))))))))
    (pss_cons (ps_set (i := 4) scLturned_body.nd rfl (Or.inl rfl) (pe_call G_law_part (hr.mono (by omega)) rfl R_law_part.m R_law_part.k R_law_part.b .nil pass0 (pa_cons (pv 0) (pa_cons (pv 1) (pa_cons (pv 2) (pa_cons (pe_lst (pa_cons pe_str pa_nil)) (pa_cons pe_int (pa_cons pe_int pa_nil))))))))
    (pss_one (ps_ret (pe_tup (pa_cons pe_str (pa_cons (pe_tup (pa_cons pe_str (pa_cons (pe_ix ix_list (pv 2) pe_int (fun _ _ => rfl)) pa_nil))) (pa_cons (pv 3) (pa_cons (pv 4) pa_nil))))))))) pss_nil)
    (pss_one (ps_ret (pe_call G_law_part (hr.mono (by omega)) rfl R_law_part.m R_law_part.k R_law_part.b .nil pass0 (pa_cons (pv 0) (pa_cons (pv 1) (pa_cons (pv 2) (pa_cons (pe_lst (pa_cons pe_str pa_nil)) (pa_cons (pe_dget (hu_of hr) (pv 1) pe_str (fun _ _ => rfl)) (pa_cons pe_int pa_nil)))))))))), ?_⟩
  -- home around
  have inH : ∀ {H1 : Hp} {ws1 js1 : List Str} {ph : Addr}, GT H1 tp kd wl pl hF ws1 js1 → Wls H1 nl xs → H1 ph = none → ws1.length ≤ js1.length → ws1.length ≤ ws.length → js1.length ≤ js.length → PtIn (upd H1 ph (.lst [V.str "home"])) tp kd wl pl nl ph hF ws1 js1 xs ["home"] := by
    intro H1 ws1 js1 ph g1 w1 hph a1 a2 a3
    have sp := same_new hph (.lst [V.str "home"])
    have nn := g1.new hph
    exact ⟨g1.same sp, w1.but (but_same sp) g1.t, n1, n2, upd_same, nn.1, nn.2.1, nn.2.2, by simp, a1, by omega, by show 1 + js1.length ≤ 200; omega⟩
  obtain ⟨el, hd', fs', kvs, rm, st, k1, rm1, rm9, _⟩ := g.k
  have nk := g.ntk k1 (fun _ z => nomatch z)
  have finalW : ∀ H1, But1 tp H H1 → Tp H1 tp → _ := fun (H1 : Hp) (b1 : But1 tp H H1) (t1 : Tp H1 tp) =>
    (show (tRet (tCall (spPart 8) [] E0 (tCons (tVar 0) (tCons (tVar 1) (tCons (tVar 2) (tCons (tLst (tCons (tC (.str "home")) tNil)) (tCons (tDGet (tVar 1) (tC (.str "room"))) (tCons (tC (.int 8)) tNil)))))))) { nx := fun x H' => Q V.non H', rt := Q } [some (.ref tp), some (.ref kd), some (.ref nl), none, none] H1 from by
      refine ⟨_, rfl, _, rfl, _, rfl, sz (by show 1 ≤ 100000; decide), fun ph hph => ?_⟩
      have s2 := same_new hph (.lst [V.str "home"])
      have g1 := g.one b1 t1
      refine ⟨_, rfl, kd, _, rfl, gt_room (s2 _ _ (b1 _ _ nk.1 k1)), tp, kd, wl, pl, nl, ph, hF, ws, js, xs, ["home"], rm, 8, rfl, inH g1 (hw.but b1 g.t) hph wj (Nat.le_refl _) (Nat.le_refl _), rm1, by omega, by decide, by decide, fun a p H' ws' js' ls ms O => ?_⟩
      exact q a p H' ws' js' ls ms ((O.pre (b1.three.trans (but3_same s2))).le (by omega)))
  refine ⟨_, rfl, sz (by show 0 ≤ 100000; decide), fun p0 hp0 => ?_⟩
  have s0 := same_new hp0 (.lst [])
  refine ⟨.list (xs.map PyData.str), .list [], .lst (SqL.of (s0 _ _ hw.1)) (dp_strs xs), .lst (SqL.of upd_same) .nil, shaped_strs hw.2, rfl, _, rfl, ?_⟩
  rw [eqv_nil]
  have g0 := g.same s0
  have w0 := hw.but (but_same s0) g.t
  have b0 : But1 tp H (upd H p0 (.lst [])) := but_same s0
  generalize upd H p0 (.lst []) = H0 at g0 w0 b0 ⊢
  cases xs with
  | nil => exact itF rfl (iteF (finalW H0 b0 g0.t))
  | cons x xr =>
    refine itT rfl ⟨_, rfl, tp, 4, rfl, g0.t, by decide, by decide, fun r H1 r0 r1 b1 t1 => ?_⟩
    have b01 := b0.trans b1
    refine ⟨_, _, rfl, rfl, _, rfl, ?_⟩
    refine ite2 (fun c => ?_) (fun c => finalW H1 b01 t1)
    have g1 := g0.one b1 t1
    have w1 := w0.but b1 g0.t
    have k11 := b01 _ _ nk.1 k1
    -- one
    refine ⟨_, rfl, _, rfl, _, rfl, sz (by show 1 ≤ 100000; decide), fun ph hph => ?_⟩
    have s2 := same_new hph (.lst [V.str "home"])
    refine ⟨_, rfl, kd, _, rfl, gt_room (s2 _ _ k11), tp, kd, wl, pl, nl, ph, hF, ws, js, x :: xr, ["home"], rm, 7, rfl, inH g1 w1 hph wj (Nat.le_refl _) (Nat.le_refl _), rm1, by omega, by decide, by decide, fun a3 q3 H3 ws3 js3 ls3 ms3 O3 => ?_⟩
    have le1 : ws3.length ≤ ws.length := by
      rw [O3.e1, List.length_append]
      omega
    have le2 : js3.length ≤ js.length := by
      rw [O3.e2, List.length_append]
      omega
    have B3 : But3 tp wl pl H1 H3 := (but3_same s2).trans O3.b
    have w3 := w1.three B3 g1 n1 n2
    -- two
    refine ⟨_, rfl, _, rfl, _, rfl, sz (by show 1 ≤ 100000; decide), fun ph4 hph4 => ?_⟩
    have s4 := same_new hph4 (.lst [V.str "home"])
    refine ⟨tp, kd, wl, pl, nl, ph4, hF, ws3, js3, x :: xr, ["home"], 3, 2, rfl, inH O3.g w3 hph4 O3.wj le1 le2, by decide, by decide, by decide, by decide, fun a5 q5 H5 ws5 js5 ls5 ms5 O5 => ?_⟩
    have B5 : But3 tp wl pl H3 H5 := (but3_same s4).trans O5.b
    have w5 := w3.three B5 O3.g n1 n2
    refine ⟨_, rfl, nl, _, _, _, rfl, rfl, SqL.of w5.1, at0, sz (by show 2 ≤ 100000; decide), fun p6 hp6 => ⟨_, rfl, _, rfl, sz (by show 4 ≤ 100000; decide), fun p7 hp7 => ?_⟩⟩
    have s6 := same_new hp6 (.tup [V.str "name", .str x])
    have s7 := same_new hp7 (.tup [V.str "if", .ref p6, .ref a3, .ref a5])
    have s67 := s6.trans s7
    have gn := gd_nam (hd := hF) (xs := x :: xr) (H := upd (upd H5 p6 (.tup [V.str "name", .str x])) p7 (.tup [V.str "if", .ref p6, .ref a3, .ref a5])) (a := p6) (x := x) ⟨rfl, s7 _ _ upd_same⟩ (hw.2 x List.mem_cons_self) List.mem_cons_self
    have k35 : TK H3 H5 := O3.g.tk B5
    refine q p7 (.iff (mkL (.nam x) []) q3 q5) _ ws5 js5 (ls3 ++ ls5) (ms3 ++ ms5) ⟨((b01.three.trans B3).trans B5).trans (but3_same s67), O5.g.same s67, O5.wj, ?_, ?_, ⟨p6, a3, a5, upd_same, gn.at_, (O3.at_.tk k35).tk (tk_same s67), O5.at_.tk (tk_same s67)⟩, ⟨⟨gn.ok, simple_mkL rfl (fun _ z => nomatch z), gn.sc, Nat.le_trans gn.cn (by decide), gn.dp.le (by decide)⟩, O3.ok, O5.ok⟩, ?_, O3.s1.append O5.s1, O3.s2.append O5.s2⟩
    · rw [O3.e1, O5.e1]
      simp
    · rw [O3.e2, O5.e2]
      simp
    · have c3 := O3.cn
      have c5 : pcnt q5 ≤ 3 := O5.cn
      show 1 + pcnt q3 + pcnt q5 ≤ 13
      omega
end
end KB

namespace KB
open PySem L2

/-! ### the words that are drawn -/
def lettersS : Str := "abcdefghijklmnopqrstuvwxyz"
def sgn (i : Nat) : Str := ⟨#[97 + i % 26]⟩
def endsL : List Str := ["", "a", "omelons"]
def someL : List Str := ["give", "ask", "post", "plus", "less", "name", "number", "to", "as", "f", "x", "aq", "bq", "lets", "ifs", "ina", "homes", "q"]
def w0 (turn : Nat) (e : Str) (k : Nat) : Str := sgn (turn + k) ++ e
def w1 (turn : Nat) (k : Nat) : Str := repS (sgn (turn + k / 8)) (1 + (k : Int) % 8)
def w2 (turn : Nat) (k : Nat) : Str := someL.getD ((turn + k) % 18) ""
def good16 (f : Nat → Str) : Bool := ((List.range 16).map f).all isW && decide ((List.range 16).map f).Nodup
theorem good_w0 : ∀ turn < 26, ∀ e ∈ endsL, good16 (w0 turn e) = true := by decide +kernel
theorem good_w1 : ∀ turn < 26, good16 (w1 turn) = true := by decide +kernel
theorem good_w2 : ∀ turn < 26, good16 (w2 turn) = true := by decide +kernel
theorem good_of {f : Nat → Str} (h : good16 f = true) {n : Nat} (hn : n ≤ 16) : (∀ x ∈ (List.range n).map f, isW x = true) ∧ ((List.range n).map f).Nodup := by
  unfold good16 at h
  rw [Bool.and_eq_true] at h
  have hs : ((List.range n).map f).Sublist ((List.range 16).map f) := (List.range_sublist.mpr hn).map f
  exact ⟨fun x hx => List.all_eq_true.mp h.1 x (hs.subset hx), (of_decide_eq_true h.2).sublist hs⟩
theorem letters_at {i : Int} (h0 : 0 ≤ i) (h1 : i < 26) : atI lettersS.cps.toList i = some (97 + i.toNat) := by
  have e : lettersS.cps.toList = (List.range 26).map (97 + ·) := by decide +kernel
  rw [e]
  obtain ⟨n, rfl⟩ : ∃ n : Nat, i = (n : Int) := ⟨i.toNat, by omega⟩
  rw [Int.toNat_natCast]
  refine atI_nat ?_
  rw [List.getElem?_map, List.getElem?_range (by omega)]
  rfl
theorem range_push {f : Nat → Str} (i : Nat) : ((List.range i).map f).map V.str ++ [V.str (f i)] = ((List.range (i + 1)).map f).map V.str := by
  rw [List.range_succ, List.map_append, List.map_append]
  rfl

section
variable {P : Program} {w : World} {K : PySem.W.Frag} {mg : Str → Option Value} {base : Heap}
def spWords : Sp := fun vs H Q _ => ∃ (tp : Addr) (many : Int), vs = [.ref tp, .int many] ∧ Tp H tp ∧ 0 ≤ many ∧ many ≤ 16 ∧
  ∀ (p : Addr) (xs : List Str) (H' : Hp), But1 tp H H' → Tp H' tp → H p = none → Wls H' p xs → (xs.length : Int) = many → xs.Nodup → Q (.ref p) H'
abbrev s_law_words : Stmt := top 24
theorem scLwords : FnScope ["tape", "many", "letters", "way", "turn", "ends", "k", "some"] ["tape", "many"] (defScope s_law_words) := ⟨rfl, rfl, rfl, by decide +kernel, rfl, by decide +kernel, by decide +kernel⟩
theorem ok_words (T : Txt K mg) {f g : Addr} {fd gd : FuncData} (F : Fun K "_law_words" "_law_words" s_law_words f fd) (G_law_digit : FnOk P w K mg base CX0 1 g gd ["tape", "many"] spDig) (R_law_digit : Ref K mg "_law_digit" g gd ["tape", "many"]) : FnOk P w K mg base CX0 2 f fd ["tape", "many"] spWords := by
  refine F.ok scLwords (fun vs H Q E h => ?_) (fun cdv A outer s H vs Q E hr h => ?_)
  · obtain ⟨tp, many, rfl, _⟩ := h
    rfl
  obtain ⟨tp, many, rfl, ht, hm0, hm1, q⟩ := h
  refine ⟨_, (pss_cons (ps_set (i := 2) scLwords.nd rfl (Or.inr rfl) pe_str)
    (pss_cons (ps_set (i := 3) scLwords.nd rfl (Or.inl rfl) (pe_call G_law_digit hr rfl R_law_digit.m R_law_digit.k R_law_digit.b .nil pass0 (pa_cons (pv 0) (pa_cons pe_int pa_nil))))
    (pss_cons (ps_set (i := 4) scLwords.nd rfl (Or.inr rfl) (pe_call G_law_digit hr rfl R_law_digit.m R_law_digit.k R_law_digit.b .nil pass0 (pa_cons (pv 0) (pa_cons pe_int pa_nil))))
    (pss_cons (ps_if (pt_cmpR op_eq (pv 3) pe_int (nomark _)) (pss_cons (ps_set (i := 5) scLwords.nd rfl (Or.inr rfl) (pe_ix ix_list (pe_lst (pa_cons pe_str (pa_cons pe_str (pa_cons pe_str pa_nil)))) (pe_call G_law_digit hr rfl R_law_digit.m R_law_digit.k R_law_digit.b .nil pass0 (pa_cons (pv 0) (pa_cons pe_int pa_nil))) (fun _ _ => rfl)))
    (pss_one (ps_ret (pe_lc (own := [("k", 6)]) (g := gName 6) (by rfl) scLwords.nd (pi_range1 rfl T.m_range (pa_cons (pv 1) pa_nil)) (blkOk_by (own := [("k", 6)]) (N := ["tape", "many", "letters", "way", "turn", "ends", "k", "some"]) (sc := defScope s_law_words) (by decide +kernel)) (fun _ _ _ _ _ => (pg_name (i := 6) scLwords.nd rfl (Or.inl rfl))) (fun _ _ _ _ _ => pts_nil) (fun _ _ _ _ _ => (pe_op op_add_str (pe_ix ix_str (pv 2) (pe_op op_mod (pe_op op_add (pv 4) (pv 6)) pe_int) (fun _ _ => rfl)) (pv 5))))))) pss_nil)
    (pss_cons (ps_if (pt_cmpR op_eq (pv 3) pe_int (nomark _)) (pss_one (ps_ret (pe_lc (own := [("k", 6)]) (g := gName 6) (by rfl) scLwords.nd (pi_range1 rfl T.m_range (pa_cons (pv 1) pa_nil)) (blkOk_by (own := [("k", 6)]) (N := ["tape", "many", "letters", "way", "turn", "ends", "k", "some"]) (sc := defScope s_law_words) (by decide +kernel)) (fun _ _ _ _ _ => (pg_name (i := 6) scLwords.nd rfl (Or.inl rfl))) (fun _ _ _ _ _ => pts_nil) (fun _ _ _ _ _ => (pe_op op_mul_str (pe_ix ix_str (pv 2) (pe_op op_mod (pe_op op_add (pv 4) (pe_op op_fdiv (pv 6) pe_int)) pe_int) (fun _ _ => rfl)) (pe_op op_add pe_int (pe_op op_mod (pv 6) pe_int))))))) pss_nil)
    (pss_cons (ps_set (i := 7) scLwords.nd rfl (Or.inr rfl) (pe_lst (pa_cons pe_str (pa_cons pe_str (pa_cons pe_str (pa_cons pe_str (pa_cons pe_str (pa_cons pe_str (pa_cons pe_str (pa_cons pe_str (pa_cons pe_str (pa_cons pe_str (pa_cons pe_str pa_nil)))))))))))))
    (pss_cons (ps_set (i := 7) scLwords.nd rfl (Or.inr rfl) (pe_op op_cat (pv 7) (pe_lst (pa_cons pe_str (pa_cons pe_str (pa_cons pe_str (pa_cons pe_str (pa_cons pe_str (pa_cons pe_str (pa_cons pe_str pa_nil))))))))))
    (pss_one (ps_ret (pe_lc (own := [("k", 6)]) (g := gName 6) (te := tOp (rIxL K) (tVar 7) (tOp (rI (fun _ j => 0 < j) fun i j => .int (i % j)) (tOp (rI0 fun i j => .int (i + j)) (tVar 4) (tVar 6)) (tC (.int 18)))) (by rfl) scLwords.nd (pi_range1 rfl T.m_range (pa_cons (pv 1) pa_nil)) (blkOk_by (own := [("k", 6)]) (N := ["tape", "many", "letters", "way", "turn", "ends", "k", "some"]) (sc := defScope s_law_words) (by decide +kernel)) (fun _ _ _ _ _ => (pg_name (i := 6) scLwords.nd rfl (Or.inl rfl))) (fun _ _ _ _ _ => pts_nil) (fun _ _ _ _ _ => (pe_ix ix_list (pv 7) (pe_op op_mod (pe_op op_add (pv 4) (pv 6)) pe_int) (fun _ _ => rfl))))))))))))), ?_⟩
  have fin : ∀ (f : Nat → Str), good16 f = true → ∀ (H1 : Hp) (D : Addr) (H' : Hp), But1 tp H H1 → Tp H1 tp → H1 D = none → Same H1 H' → H' D = some (.lst (((List.range many.toNat).map f).map V.str)) → Q (.ref D) H' := by
    intro f hf H1 D H' b1 t1 hD s1 h1
    obtain ⟨e1, e2⟩ := good_of hf (n := many.toNat) (by omega)
    refine q D _ H' (b1.trans (but_same s1)) (t1.same s1) ?_ ⟨h1, e1⟩ (by rw [List.length_map, List.length_range]; omega) e2
    cases e : H D with
    | none => rfl
    | some o =>
      obtain ⟨z, hz⟩ := t1
      rw [b1 _ _ (ne_of_none hz hD).symm e] at hD
      cases hD
  refine ⟨_, rfl, tp, 3, rfl, ht, by decide, by decide, fun way H1 _ _ b1 t1 => ?_⟩
  refine ⟨_, rfl, tp, 26, rfl, t1, by decide, by decide, fun turn H2 r0 r1 b2 t2 => ?_⟩
  have b12 := b1.trans b2
  refine ⟨_, rfl, rfl, _, rfl, ?_⟩
  refine ite2 (fun c1 => ?_) (fun c1 => ?_)
  · refine ⟨sz (by show 3 ≤ 100000; decide), fun p hp => ?_⟩
    have s3 := same_new hp (.lst [.str "", .str "a", .str "omelons"])
    have np : p ≠ tp := by
      obtain ⟨z, hz⟩ := t2
      exact (ne_of_none hz hp).symm
    refine ⟨_, rfl, tp, 3, rfl, t2.same s3, by decide, by decide, fun r H3 r2 r3 b3 t3 => ?_⟩
    obtain ⟨v, hv, hm⟩ := at_some (xs := endsL.map V.str) r2 r3
    obtain ⟨e, he, rfl⟩ := List.mem_map.mp hm
    have hel : e.length ≤ 100 := by
      have : ∀ x ∈ endsL, x.length ≤ 100 := by decide +kernel
      exact this e he
    refine ⟨p, _, _, _, rfl, rfl, SqL.of (b3 _ _ np upd_same), hv, ?_⟩
    have b4 := (b12.trans (but_same s3)).trans b3
    refine ⟨_, rfl, many, rfl, by omega, by omega, fun D hD => lc_range (lo := 0) (n := many.toNat) (fun i H' => Same H3 H' ∧ H' D = some (.lst (((List.range i).map (w0 turn.toNat e)).map V.str))) ⟨same_new hD _, upd_same⟩ ?_ ?_⟩
    · rintro i H' hi ⟨s5, h5⟩
      have ei : (turn + (0 + (i : Nat))) % 26 = (((turn.toNat + i) % 26 : Nat) : Int) := by omega
      refine ⟨rfl, ?_⟩
      dsimp only [tYes]
      refine iteT ?_
      refine ⟨_, rfl, _, rfl, _, rfl, _, _, rfl, rfl, _, _, rfl, rfl, (by show (0 : Int) < 26; decide), lettersS, _, _, rfl, rfl, (by decide +kernel), letters_at (Int.emod_nonneg _ (by decide)) (Int.emod_lt_of_pos _ (by decide)), ?_⟩
      refine ⟨_, rfl, _, _, rfl, rfl, sz (by show 1 + e.length ≤ 100000; omega), ?_⟩
      refine ⟨_, h5, Nat.lt_of_le_of_lt (m := 100) (by rw [List.length_map, List.length_map, List.length_range]; omega) (by decide), same_mut s5 hD, ?_⟩
      rw [upd_same, ← range_push]
      have e9 : w0 turn.toNat e i = (⟨#[97 + ((turn + (0 + (i : Nat))) % 26).toNat]⟩ : Str) ++ e := by
        rw [ei, Int.toNat_natCast]
        rfl
      rw [e9]
    · rintro H' ⟨s5, h5⟩
      exact fin _ (good_w0 turn.toNat (by omega) e he) H3 D H' b4 t3 hD s5 h5
  refine ⟨_, rfl, rfl, _, rfl, ?_⟩
  refine ite2 (fun c2 => ?_) (fun c2 => ?_)
  · refine ⟨_, rfl, many, rfl, by omega, by omega, fun D hD => lc_range (lo := 0) (n := many.toNat) (fun i H' => Same H2 H' ∧ H' D = some (.lst (((List.range i).map (w1 turn.toNat)).map V.str))) ⟨same_new hD _, upd_same⟩ ?_ ?_⟩
    · rintro i H' hi ⟨s5, h5⟩
      have ei : (turn + (0 + (i : Nat)) / 8) % 26 = (((turn.toNat + i / 8) % 26 : Nat) : Int) := by omega
      refine ⟨rfl, ?_⟩
      dsimp only [tYes]
      refine iteT ?_
      refine ⟨_, rfl, _, rfl, _, rfl, _, _, rfl, rfl, ⟨by decide, by decide⟩, _, _, rfl, rfl, _, _, rfl, rfl, (by show (0 : Int) < 26; decide), lettersS, _, _, rfl, rfl, (by decide +kernel), letters_at (Int.emod_nonneg _ (by decide)) (Int.emod_lt_of_pos _ (by decide)), ?_⟩
      refine ⟨_, rfl, _, _, rfl, rfl, (by show (0 : Int) < 8; decide), _, _, rfl, rfl, _, _, rfl, rfl, by omega, by omega, Nat.le_refl 1, by show 1 ≤ 1000; decide, ?_⟩
      refine ⟨_, h5, Nat.lt_of_le_of_lt (m := 100) (by rw [List.length_map, List.length_map, List.length_range]; omega) (by decide), same_mut s5 hD, ?_⟩
      rw [upd_same, ← range_push]
      have e9 : w1 turn.toNat i = repS (⟨#[97 + ((turn + (0 + (i : Nat)) / 8) % 26).toNat]⟩ : Str) (1 + (0 + (i : Nat)) % 8) := by
        rw [ei, Int.toNat_natCast, Int.zero_add]
        rfl
      rw [e9]
    · rintro H' ⟨s5, h5⟩
      exact fin _ (good_w1 turn.toNat (by omega)) H2 D H' b12 t2 hD s5 h5
  · refine ⟨sz (by show 11 ≤ 100000; decide), fun p1 hp1 => ?_⟩
    have s3 := same_new hp1 (.lst ((someL.take 11).map V.str))
    refine ⟨_, rfl, sz (by show 7 ≤ 100000; decide), fun p2 hp2 => ?_⟩
    have s4 := same_new hp2 (.lst ((someL.drop 11).map V.str))
    refine ⟨p1, p2, (someL.take 11).map V.str, (someL.drop 11).map V.str, rfl, rfl, s4 _ _ upd_same, upd_same, sz (by show 18 ≤ 100000; decide), fun p3 hp3 => ?_⟩
    have s5 := same_new hp3 (.lst ((someL.take 11).map V.str ++ (someL.drop 11).map V.str))
    have s35 := s3.trans (s4.trans s5)
    have h3 : upd (upd (upd H2 p1 (.lst ((someL.take 11).map V.str))) p2 (.lst ((someL.drop 11).map V.str))) p3 (.lst ((someL.take 11).map V.str ++ (someL.drop 11).map V.str)) p3 = some (.lst (someL.map V.str)) := upd_same
    have t3 := t2.same s35
    have b3 := b12.trans (but_same s35)
    refine ⟨_, rfl, many, rfl, by omega, by omega, fun D hD => lc_range (lo := 0) (n := many.toNat) (fun i H' => Same (upd (upd (upd H2 p1 (.lst ((someL.take 11).map V.str))) p2 (.lst ((someL.drop 11).map V.str))) p3 (.lst ((someL.take 11).map V.str ++ (someL.drop 11).map V.str))) H' ∧ H' D = some (.lst (((List.range i).map (w2 turn.toNat)).map V.str))) ⟨same_new hD _, upd_same⟩ ?_ ?_⟩
    · rintro i H' hi ⟨s6, h6⟩
      have ei : (turn + (0 + (i : Nat))) % 18 = (((turn.toNat + i) % 18 : Nat) : Int) := by omega
      have hat : atI (someL.map V.str) ((turn + (0 + (i : Nat))) % 18) = some (V.str (w2 turn.toNat i)) := by
        rw [ei]
        refine atI_nat ?_
        rw [List.getElem?_map]
        unfold w2
        have hl : (turn.toNat + i) % 18 < someL.length := Nat.mod_lt _ (by decide)
        rw [List.getElem?_eq_getElem hl, List.getD_eq_getElem?_getD, List.getElem?_eq_getElem hl]
        rfl
      refine ⟨rfl, ?_⟩
      dsimp only [tYes]
      refine iteT ?_
      refine ⟨_, rfl, _, rfl, _, rfl, _, _, rfl, rfl, _, _, rfl, rfl, (by show (0 : Int) < 18; decide), p3, _, _, _, rfl, rfl, SqL.of (s6 _ _ h3), hat, ?_⟩
      refine ⟨_, h6, Nat.lt_of_le_of_lt (m := 100) (by rw [List.length_map, List.length_map, List.length_range]; omega) (by decide), same_mut s6 hD, ?_⟩
      rw [upd_same, ← range_push]
    · rintro H' ⟨s6, h6⟩
      exact fin _ (good_w2 turn.toNat (by omega)) _ D H' b3 t3 hD s6 h6
end
end KB

namespace KB
open PySem L2

/-! ### turned books -/
def But2 (tp wl : Addr) (H H' : Hp) : Prop := ∀ b o, b ≠ tp → b ≠ wl → H b = some o → H' b = some o
theorem But2.refl (tp wl : Addr) (H : Hp) : But2 tp wl H H := fun _ _ _ _ h => h
abbrev TEr := Str × List Str × Pt
def TErV (H : Hp) (e : TEr) (v : V) : Prop := ∃ q r b, v = .ref q ∧ H q = some (.tup [.str e.1, .ref r, .ref b]) ∧ H r = some (.tup (e.2.1.map V.str)) ∧ PAt H e.2.2 b
theorem TErV.tk {H H' : Hp} (t : TK H H') {e : TEr} {v : V} (h : TErV H e v) : TErV H' e v :=
  let ⟨q, r, b, e1, h1, h2, h3⟩ := h; ⟨q, r, b, e1, t _ _ h1, t _ _ h2, h3.tk t⟩
def TBkAt (H : Hp) (es : List TEr) (vs : List V) (p : Addr) : Prop := H p = some (.tup vs) ∧ All2 (TErV H) es vs
structure GdTE (hF : Str → Option Nat) (e : TEr) : Prop where
  w : isW e.1 = true
  ws : ∀ x ∈ e.2.1, isW x = true
  n4 : e.2.1.length ≤ 4
  ok : okP hF e.2.2 e.2.1 ["home"]
  cn : pcnt e.2.2 ≤ 13
  hf : hF e.1 = some e.2.1.length
  un : (e.2.1 ++ wP e.2.2).Nodup
  uj : (jP e.2.2).Nodup
structure GdTB (es : List TEr) : Prop where
  len : 1 ≤ es.length ∧ es.length ≤ 6
  nd : (es.map (·.1)).Nodup
  er : ∃ hF : Str → Option Nat, (∀ e ∈ es, GdTE hF e) ∧ ∀ f n, hF f = some n → f ∈ es.map (·.1)
def knT4 (el hd wl : Addr) (room : Int) : List (Key × V) := [(kgE, .ref el), (kgH, .ref hd), (kgW, .ref wl), (kgR, .int room)]
theorem merge_kn4 (el hd wl : Addr) (room : Int) : mergeK [] (knT4 el hd wl room) = knT4 el hd wl room := rfl
def hFof (fs : List Str) (kvs : List (Key × V)) (f : Str) : Option Nat :=
  if f ∈ fs then (match valV kvs (Sum.inr f) with | some (.int n) => some n.toNat | _ => none) else none
theorem hFof_at {fs : List Str} {kvs : List (Key × V)} {f : Str} {n : Int} (h : f ∈ fs) (e : valV kvs (Sum.inr f) = some (.int n)) : hFof fs kvs f = some n.toNat := by
  unfold hFof
  rw [if_pos h, e]
theorem hFof_in {fs : List Str} {kvs : List (Key × V)} {f : Str} {n : Nat} (h : hFof fs kvs f = some n) : f ∈ fs := by
  unfold hFof at h
  by_cases c : f ∈ fs
  · exact c
  · rw [if_neg c] at h
    cases h

theorem cut_to {xs : List V} {i : Int} (h0 : 0 ≤ i) (h : i.toNat ≤ xs.length) : cutV xs none (some i) = xs.take i.toNat := by
  unfold cutV
  rw [sIx_no, sIx_at h0 h, List.drop_zero, Nat.sub_zero]

section
variable {P : Program} {w : World} {K : PySem.W.Frag} {mg : Str → Option Value} {base : Heap}
/-! ### _law_turned_book -/
def spTBook (K : PySem.W.Frag) : Sp := fun vs H Q _ => ∃ (sc : Addr) (ns : List Int) (start : Int) (st : Bool), vs = [.ref sc, .int start, .bl st] ∧ SqL K H sc (ns.map V.int) ∧ 0 ≤ start ∧ start ≤ 100 ∧ ∀ p es us H', Same H H' → TBkAt H' es us p → GdTB es → Q (.ref p) H'
abbrev s_law_turned_book : Stmt := top 38
theorem scLturned_book : FnScope ["script", "start", "straight", "head", "errands", "heads", "f", "room", "found", "k", "tape", "words", "names", "known"] ["script", "start", "straight"] (defScope s_law_turned_book) := ⟨rfl, rfl, rfl, by decide +kernel, rfl, by decide +kernel, by decide +kernel⟩
theorem ok_tbook (T : Txt K mg) {f fg ft fw fb : Addr} {fd gd td wd bd : FuncData} (F : Fun K "_law_turned_book" "_law_turned_book" s_law_turned_book f fd) (G_law_digit : FnOk P w K mg base CX0 1 fg gd ["tape", "many"] spDig) (R_law_digit : Ref K mg "_law_digit" fg gd ["tape", "many"])
    (G_law_tape : FnOk P w K mg base CX0 2 ft td ["script", "k"] (spTape K)) (R_law_tape : Ref K mg "_law_tape" ft td ["script", "k"]) (G_law_words : FnOk P w K mg base CX0 2 fw wd ["tape", "many"] spWords) (R_law_words : Ref K mg "_law_words" fw wd ["tape", "many"])
    (G_law_turned_body : FnOk P w K mg base CX0 16 fb bd ["tape", "known", "names"] spTBody) (R_law_turned_body : Ref K mg "_law_turned_body" fb bd ["tape", "known", "names"]) : FnOk P w K mg base CX0 17 f fd ["script", "start", "straight"] (spTBook K) := by
  refine F.ok scLturned_book (fun vs H Q E h => ?_) (fun cdv A outer s H vs Q E hr h => ?_)
  · obtain ⟨sc, ns, start, st, rfl, _⟩ := h
    rfl
  obtain ⟨sc, ns, start, st, rfl, hS, hst0, hst1, q⟩ := h
  refine ⟨_, (pss_cons (ps_set (i := 3) scLturned_book.nd rfl (Or.inl rfl) (pe_call G_law_tape (hr.mono (by omega)) rfl R_law_tape.m R_law_tape.k R_law_tape.b .nil pass0 (pa_cons (pv 0) (pa_cons (pv 1) pa_nil))))
    (pss_cons (ps_set (i := 4) scLturned_book.nd rfl (Or.inl rfl) (pe_call G_law_words (hr.mono (by omega)) rfl R_law_words.m R_law_words.k R_law_words.b .nil pass0 (pa_cons (pv 3) (pa_cons (pe_ix ix_list (pe_lst (pa_cons pe_int (pa_cons pe_int (pa_cons pe_int (pa_cons pe_int (pa_cons pe_int (pa_cons pe_int pa_nil))))))) (pe_call G_law_digit (hr.mono (by omega)) rfl R_law_digit.m R_law_digit.k R_law_digit.b .nil pass0 (pa_cons (pv 3) (pa_cons pe_int pa_nil))) (fun _ _ => rfl)) pa_nil))))
    (pss_cons (ps_set (i := 5) scLturned_book.nd rfl (Or.inl rfl) pe_dnewK)
    (pss_cons (ps_for PassesOwn.never rfl (pi_list (pv 4)) (pg_name (i := 6) scLturned_book.nd rfl (Or.inl rfl)) (pss_one (ps_dput (hu_of hr) (pv 5) (pv 6) (pe_ix ix_list (pe_lst (pa_cons pe_int (pa_cons pe_int (pa_cons pe_int (pa_cons pe_int (pa_cons pe_int (pa_cons pe_int pa_nil))))))) (pe_call G_law_digit (hr.mono (by omega)) rfl R_law_digit.m R_law_digit.k R_law_digit.b .nil pass0 (pa_cons (pv 3) (pa_cons pe_int pa_nil))) (fun _ _ => rfl)) rfl)))
    (pss_cons (ps_set (i := 7) scLturned_book.nd rfl (Or.inl rfl) (pe_ix ix_list (pe_lst (pa_cons pe_int (pa_cons pe_int (pa_cons pe_int (pa_cons pe_int pa_nil))))) (pe_call G_law_digit (hr.mono (by omega)) rfl R_law_digit.m R_law_digit.k R_law_digit.b .nil pass0 (pa_cons (pv 3) (pa_cons pe_int pa_nil))) (fun _ _ => rfl)))
    (pss_cons (ps_set (i := 8) scLturned_book.nd rfl (Or.inl rfl) (pe_lst pa_nil))
    (pss_cons (ps_for PassesOwn.never rfl (pi_range1 rfl T.m_range (pa_cons (pe_callB call_len_seq (by rfl) T.m_len PySem.boot_len (pa_cons (pv 4) pa_nil)) pa_nil)) (pg_name (i := 9) scLturned_book.nd rfl (Or.inl rfl)) (pss_cons (ps_set (i := 10) scLturned_book.nd rfl (Or.inl rfl) (pe_call G_law_tape (hr.mono (by omega)) rfl R_law_tape.m R_law_tape.k R_law_tape.b .nil pass0 (pa_cons (pv 0) (pa_cons (pe_op op_add (pe_op op_add (pv 1) pe_int) (pv 9)) pa_nil))))
    (pss_cons (ps_set (i := 11) scLturned_book.nd rfl (Or.inl rfl) (pe_call G_law_words (hr.mono (by omega)) rfl R_law_words.m R_law_words.k R_law_words.b .nil pass0 (pa_cons (pv 10) (pa_cons pe_int pa_nil))))
    (pss_cons (ps_set (i := 12) scLturned_book.nd rfl (Or.inl rfl) (pe_slice sl_list (pv 11) po_none (po_some (pe_dget (hu_of hr) (pv 5) (pe_ix ix_list (pv 4) (pv 9) (fun _ _ => rfl)) (fun _ _ => rfl)))))
    (pss_cons (ps_set (i := 13) scLturned_book.nd rfl (Or.inl rfl) (pe_disp (pps_cons pe_str (pv 4) (pps_cons pe_str (pv 5) (pps_cons pe_str (pe_slice sl_list (pv 11) (po_some (pe_callB call_len_seq (by rfl) T.m_len PySem.boot_len (pa_cons (pv 12) pa_nil))) po_none) (pps_cons pe_str (pv 7) pps_nil)))) (by rfl) (by rfl) (fun z => by cases z) (by decide)))
    (pss_cons (ps_dput (hu_of hr) (pv 13) pe_str (pe_call G_law_words (hr.mono (by omega)) rfl R_law_words.m R_law_words.k R_law_words.b .nil pass0 (pa_cons (pv 10) (pa_cons pe_int pa_nil))) rfl)
    (pss_cons (ps_dput (hu_of hr) (pv 13) pe_str (pv 2) rfl)
    (pss_one (ps_expr (pe_bm PySem.F.plainAttrs_list PySem.F.slot_list_append PySem.F.type_list_append mt_append (pv 8) (pa_cons (pe_tup (pa_cons (pe_ix ix_list (pv 4) (pv 9) (fun _ _ => rfl)) (pa_cons (pe_callTy call_tuple_of (by rfl) T.m_tuple (by decide +kernel) (pa_cons (pv 12) pa_nil)) (pa_cons (pe_call G_law_turned_body hr rfl R_law_turned_body.m R_law_turned_body.k R_law_turned_body.b .nil pass0 (pa_cons (pv 10) (pa_cons (pv 13) (pa_cons (pv 12) pa_nil)))) pa_nil)))) pa_nil)))))))))))
    (pss_one (ps_ret (pe_callTy call_tuple_of (by rfl) T.m_tuple (by decide +kernel) (pa_cons (pv 8) pa_nil))))))))))), ?_⟩
  refine ⟨_, rfl, _, rfl, sc, ns, start, rfl, hS, hst0, by omega, fun hp z0 hhp => ?_⟩
  have s1 := same_new hhp (.lst [.int z0])
  have t1 : Tp (upd H hp (.lst [.int z0])) hp := ⟨z0, upd_same⟩
  -- errands
  refine ⟨_, rfl, sz (by show 6 ≤ 100000; decide), fun p2 hp2 => ?_⟩
  have s2 := same_new hp2 (.lst [.int 1, .int 2, .int 2, .int 3, .int 4, .int 6])
  have t2 := t1.same s2
  have n2 : p2 ≠ hp := (ne_of_none upd_same hp2).symm
  refine ⟨_, rfl, hp, 6, rfl, t2, by decide, by decide, fun r H3 r0 r1 b3 t3 => ?_⟩
  have hme : ∃ m : Int, atI [V.int 1, .int 2, .int 2, .int 3, .int 4, .int 6] r = some (.int m) ∧ 1 ≤ m ∧ m ≤ 6 := by
    obtain ⟨v, hv, hm⟩ := at_some (xs := [V.int 1, .int 2, .int 2, .int 3, .int 4, .int 6]) r0 r1
    simp only [List.mem_cons, List.not_mem_nil, or_false] at hm
    rcases hm with z | z | z | z | z | z <;> subst z <;> exact ⟨_, hv, by decide, by decide⟩
  obtain ⟨m, hma, hm1, hm6⟩ := hme
  refine ⟨p2, _, _, _, rfl, rfl, SqL.of (b3 _ _ n2 upd_same), hma, ?_⟩
  refine ⟨hp, m, rfl, t3, by omega, by omega, fun el fs H4 b4 t4 hel w4 hfl hnd => ?_⟩
  have sH3 : Same H H3 := fun b o h => b3 _ _ (ne_of_none h hhp) (s2 _ _ (s1 _ _ h))
  have sH4 : Same H H4 := fun b o h => b4 _ _ (ne_of_none h hhp) (sH3 _ _ h)
  -- heads
  intro hd hhd
  have s5 := same_new hhd (.dK [])
  have t5 := t4.same s5
  have w5 := w4.but (but_same s5) t4
  have hhd0 : H hd = none := by
    cases e : H hd with
    | none => rfl
    | some o =>
      rw [sH4 _ _ e] at hhd
      cases hhd
  have nhd : hd ≠ hp := by
    obtain ⟨z, hz⟩ := t4
    exact (ne_of_none hz hhd).symm
  have neh : el ≠ hd := ne_of_none w4.1 hhd
  have hlen6 : fs.length ≤ 6 := by omega
  have sH5 : Same H (upd H4 hd (.dK [])) := sH4.trans s5
  have h5d : upd H4 hd (.dK []) hd = some (.dK []) := upd_same
  generalize upd H4 hd (.dK []) = H5 at s5 t5 w5 sH5 h5d
  refine ⟨_, rfl, el, rfl, ⟨_, SqL.of w5.1⟩, for_list (K := K) (a := el) (xs := fs.map V.str) (fun i σ H' => ∃ o kvs, σ = [some (.ref sc), some (.int start), some (.bl st), some (.ref hp), some (.ref el), some (.ref hd), o, none, none, none, none, none, none, none] ∧
    But2 hp hd H5 H' ∧ Tp H' hp ∧ H' hd = some (.dK kvs) ∧ kvs.length ≤ i ∧ ∀ f ∈ fs.take i, ∃ n : Int, valV kvs (Sum.inr f) = some (.int n) ∧ 0 ≤ n ∧ n ≤ 4) ?_ ?_ ?_ ?_⟩
  · refine ⟨none, [], rfl, But2.refl _ _ _, t5, h5d, Nat.le_refl _, fun f hf => ?_⟩
    rw [List.take_zero] at hf
    cases hf
  · rintro i σ H' _ ⟨o, kvs, rfl, b6, _⟩
    exact SqL.of (b6 _ _ (wls_tp w5.1 t5) neh w5.1)
  · rintro i x σ H6 hx ⟨o, kvs, rfl, b6, t6, h6, hkl, hkv⟩
    rw [List.getElem?_map] at hx
    obtain ⟨fn, hfn, rfl⟩ : ∃ fn, fs[i]? = some fn ∧ V.str fn = x := by
      cases e : fs[i]? with
      | none =>
        rw [e] at hx
        cases hx
      | some fn =>
        rw [e] at hx
        exact ⟨fn, rfl, Option.some.inj hx⟩
    obtain ⟨hi, hi2⟩ := List.getElem?_eq_some_iff.mp hfn
    refine ⟨sz (by show 6 ≤ 100000; decide), fun p7 hp7 => ?_⟩
    have s7 := same_new hp7 (.lst [.int 1, .int 2, .int 1, .int 0, .int 3, .int 4])
    have n7 : p7 ≠ hp := by
      obtain ⟨z, hz⟩ := t6
      exact (ne_of_none hz hp7).symm
    refine ⟨_, rfl, hp, 6, rfl, t6.same s7, by decide, by decide, fun r2 H8 r3 r4 b8 t8 => ?_⟩
    have hne : ∃ m : Int, atI [V.int 1, .int 2, .int 1, .int 0, .int 3, .int 4] r2 = some (.int m) ∧ 0 ≤ m ∧ m ≤ 4 := by
      obtain ⟨v, hv, hm⟩ := at_some (xs := [V.int 1, .int 2, .int 1, .int 0, .int 3, .int 4]) r3 r4
      simp only [List.mem_cons, List.not_mem_nil, or_false] at hm
      rcases hm with z | z | z | z | z | z <;> subst z <;> exact ⟨_, hv, by decide, by decide⟩
    obtain ⟨m2, hma2, hm20, hm24⟩ := hne
    have h8 : H8 hd = some (.dK kvs) := b8 _ _ nhd (s7 _ _ h6)
    refine ⟨p7, _, _, _, rfl, rfl, SqL.of (b8 _ _ n7 upd_same), hma2, _, rfl, _, rfl, hd, _, rfl, DPut.k (k := Sum.inr fn) h8 (Nat.lt_of_le_of_lt (m := 1000) (by omega) (by decide)), ?_⟩
    refine ⟨_, _, rfl, fun b o n1 n2 hb => ?_, ?_, upd_same, ?_, ?_⟩
    · rw [upd_ne n2]
      exact b8 _ _ n1 (s7 _ _ (b6 _ _ n1 n2 hb))
    · obtain ⟨z, hz⟩ := t8
      exact ⟨z, by rw [upd_ne nhd.symm]; exact hz⟩
    · have := length_putK kvs (Sum.inr fn) (V.int m2)
      omega
    · intro f' hf'
      rw [List.take_succ_eq_append_getElem hi, hi2] at hf'
      by_cases e : f' = fn
      · subst e
        exact ⟨m2, by rw [valV_put, if_pos rfl], hm20, hm24⟩
      · rcases List.mem_append.mp hf' with z | z
        · obtain ⟨n3, q1, q2, q3⟩ := hkv f' z
          refine ⟨n3, ?_, q2, q3⟩
          rw [valV_put, if_neg (fun y => e (Sum.inr.inj y))]
          exact q1
        · exact absurd (List.mem_singleton.mp z) e
  rintro σ H6 ⟨o5, kvs, rfl, b6, t6, h6, _, hkv⟩
  rw [List.length_map, List.take_length] at hkv
  have w6 : Wls H6 el fs := ⟨b6 _ _ (wls_tp w5.1 t5) neh w5.1, w5.2⟩
  have sH6 : Same H H6 := fun b o hb => b6 _ _ (ne_of_none hb hhp) (ne_of_none hb hhd0) (sH5 _ _ hb)
  -- room
  refine ⟨sz (by show 4 ≤ 100000; decide), fun p7 hp7 => ?_⟩
  have s7 := same_new hp7 (.lst [.int 3, .int 5, .int 7, .int 9])
  have n7 : p7 ≠ hp := by
    obtain ⟨z, hz⟩ := t6
    exact (ne_of_none hz hp7).symm
  refine ⟨_, rfl, hp, 4, rfl, t6.same s7, by decide, by decide, fun r2 H8 r3 r4 b8 t8 => ?_⟩
  have hre : ∃ m : Int, atI [V.int 3, .int 5, .int 7, .int 9] r2 = some (.int m) ∧ 3 ≤ m ∧ m ≤ 9 := by
    obtain ⟨v, hv, hm⟩ := at_some (xs := [V.int 3, .int 5, .int 7, .int 9]) r3 r4
    simp only [List.mem_cons, List.not_mem_nil, or_false] at hm
    rcases hm with z | z | z | z <;> subst z <;> exact ⟨_, hv, by decide, by decide⟩
  obtain ⟨room, hra, hr8, hr40⟩ := hre
  refine ⟨p7, _, _, _, rfl, rfl, SqL.of (b8 _ _ n7 upd_same), hra, ?_⟩
  have sH8 : Same H H8 := fun b o hb => b8 _ _ (ne_of_none hb hhp) (s7 _ _ (sH6 _ _ hb))
  have w8 : Wls H8 el fs := ⟨b8 _ _ (wls_tp w6.1 t6) (s7 _ _ w6.1), w6.2⟩
  have h8 : H8 hd = some (.dK kvs) := b8 _ _ nhd (s7 _ _ h6)
  have hS8 : SqL K H8 sc (ns.map V.int) := sH8.seq hS
  clear h6 w6 sH6 s7 b8 t8 hp7 b6 t6
  -- found
  refine ⟨sz (by show 0 ≤ 100000; decide), fun fl hflN => ?_⟩
  have s9 := same_new hflN (.lst [])
  refine ⟨_, rfl, el, _, rfl, .inl (SqL.of (s9 _ _ w8.1)), _, rfl, by omega, by rw [List.length_map]; omega, ?_⟩
  have hnl : (((fs.map V.str).length : Nat) : Int).toNat = fs.length := by
    rw [Int.toNat_natCast, List.length_map]
  refine for_range (lo := 0) (n := (((fs.map V.str).length : Nat) : Int).toNat) (fun i σ H' => ∃ o8 o9 o10 o11 o12 vs es, σ = [some (.ref sc), some (.int start), some (.bl st), some (.ref hp), some (.ref el), some (.ref hd), o5, some (.int room), some (.ref fl), o8, o9, o10, o11, o12] ∧
    Same H8 H' ∧ H' fl = some (.lst vs) ∧ All2 (TErV H') es vs ∧ es.length = i ∧ es.map (·.1) = fs.take i ∧ ∀ e ∈ es, GdTE (hFof fs kvs) e) ?_ ?_ ?_
  · exact ⟨_, _, _, _, _, [], [], rfl, s9, upd_same, trivial, rfl, rfl, fun _ z => nomatch z⟩
  · rintro i σ H' hi ⟨o8, o9, o10, o11, o12, vs, es, rfl, sA, hfA, kA, hel2, hnm, hgd⟩
    rw [hnl] at hi
    have hfi : fs[i]? = some fs[i] := List.getElem?_eq_getElem hi
    have hfm := List.getElem_mem hi
    generalize fs[i] = fn at hfi hfm
    have ei : (0 : Int) + (i : Nat) = ((i : Nat) : Int) := by omega
    have hat : atI (fs.map V.str) ((0 : Int) + (i : Nat)) = some (V.str fn) := by
      rw [ei]
      exact atI_nat (by rw [List.getElem?_map, hfi]; rfl)
    obtain ⟨nn, hnn, hn0, hn4⟩ := hkv fn hfm
    -- tape
    refine ⟨_, rfl, _, rfl, _, _, rfl, rfl, _, rfl, _, _, rfl, rfl, sc, ns, _, rfl, sA.seq hS8, by omega, by omega, fun tp z htp => ?_⟩
    have sB := same_new htp (.lst [.int z])
    have tB : Tp (upd H' tp (.lst [.int z])) tp := ⟨z, upd_same⟩
    refine ⟨_, rfl, tp, 16, rfl, tB, by decide, by decide, fun wp ws HC bC tC hwp wC hwl hwnd => ?_⟩
    have hwl16 : ws.length = 16 := by omega
    have sC : Same H' HC := fun b o hb => bC _ _ (ne_of_none hb htp) (sB _ _ hb)
    have wCe : Wls HC el fs := ⟨sC _ _ (sA _ _ w8.1), w8.2⟩
    have hCd : HC hd = some (.dK kvs) := sC _ _ (sA _ _ h8)
    -- names
    refine ⟨_, rfl, _, rfl, _, rfl, _, rfl, el, _, _, _, rfl, rfl, SqL.of wCe.1, hat, hd, _, rfl, get_of hCd hnn, _, rfl, wp, _, rfl, SqL.of wC.1, fun np hnp => ?_⟩
    have eN : cutV (ws.map V.str) none (some nn) = (ws.take nn.toNat).map V.str := by
      rw [cut_to hn0 (by rw [List.length_map]; omega), List.map_take]
    rw [eN]
    have sD := same_new hnp (.lst ((ws.take nn.toNat).map V.str))
    have hD : upd HC np (.lst ((ws.take nn.toNat).map V.str)) np = some (.lst ((ws.take nn.toNat).map V.str)) := upd_same
    have tD := tC.same sD
    generalize upd HC np (.lst ((ws.take nn.toNat).map V.str)) = HD at sD hD tD
    -- known
    intro kd hkd
    have sE := same_new hkd (.dK [])
    refine ⟨_, rfl, _, rfl, _, rfl, _, rfl, np, _, rfl, .inl (SqL.of (sE _ _ hD)), _, rfl, wp, _, rfl, SqL.of (sE _ _ (sD _ _ wC.1)), fun wl hwlN => ?_⟩
    have eW : cutV (ws.map V.str) (some ((((ws.take nn.toNat).map V.str).length : Nat) : Int)) none = (ws.drop nn.toNat).map V.str := by
      have e1 : ((ws.take nn.toNat).map V.str).length = nn.toNat := by
        rw [List.length_map, List.length_take]
        omega
      rw [e1, cut_from (by omega) (by rw [List.length_map]; omega), List.map_drop, Int.toNat_natCast]
    rw [eW]
    have sF := same_new hwlN (.lst ((ws.drop nn.toNat).map V.str))
    have hkF : upd (upd HD kd (.dK [])) wl (.lst ((ws.drop nn.toNat).map V.str)) kd = some (.dK []) := sF _ _ upd_same
    have hwF : upd (upd HD kd (.dK [])) wl (.lst ((ws.drop nn.toNat).map V.str)) wl = some (.lst ((ws.drop nn.toNat).map V.str)) := upd_same
    have nwk : wl ≠ kd := (ne_of_none upd_same hwlN).symm
    have nwn : np ≠ wl := ne_of_none (sE _ _ hD) hwlN
    have sDF := sE.trans sF
    have nwe : el ≠ wl := ne_of_none (sE _ _ (sD _ _ wCe.1)) hwlN
    have hwl0 : H' wl = none := by
      cases e : H' wl with
      | none => rfl
      | some o =>
        rw [sE _ _ (sD _ _ (sC _ _ e))] at hwlN
        cases hwlN
    generalize upd (upd HD kd (.dK [])) wl (.lst ((ws.drop nn.toNat).map V.str)) = HF at sDF hkF hwF
    refine ⟨_, rfl, hkF, knT4 el hd wl room, rfl, by show 4 ≤ 15; decide, ?_⟩
    rw [merge_kn4]
    have sG4 : Same HD (upd HF kd (.dK (knT4 el hd wl room))) := fun b o hb => by
      have nb : b ≠ kd := ne_of_none hb hkd
      rw [upd_ne nb]
      exact sDF _ _ hb
    have hkG4 : upd HF kd (.dK (knT4 el hd wl room)) kd = some (.dK (knT4 el hd wl room)) := upd_same
    have hwG4 : upd HF kd (.dK (knT4 el hd wl room)) wl = some (.lst ((ws.drop nn.toNat).map V.str)) := by
      rw [upd_ne nwk]
      exact hwF
    generalize upd HF kd (.dK (knT4 el hd wl room)) = HG4 at sG4 hkG4 hwG4 ⊢
    -- posts, straight
    have tG4 : Tp HG4 tp := (tC.same sD).same sG4
    have nkt : kd ≠ tp := by
      obtain ⟨z, hz⟩ := tC.same sD
      exact (ne_of_none hz hkd).symm
    have big4 : (knT4 el hd wl room).length < sizeLine := Nat.lt_of_lt_of_le (by show 4 < 1000; decide : _ < 1000) (by decide)
    have big5 : ∀ pl : Addr, (putK (knT4 el hd wl room) kgP (.ref pl)).length < sizeLine := fun pl => Nat.lt_of_lt_of_le (by show 5 < 1000; decide : _ < 1000) (by decide)
    refine ⟨_, rfl, tp, 16, rfl, tG4, by decide, by decide, fun pl js HP bP tP hplN wPl hjl hjnd => ?_⟩
    have hjl16 : js.length = 16 := by omega
    have hkP := bP _ _ nkt hkG4
    have npk : pl ≠ kd := fun z => by
      rw [z] at hplN
      rw [hkG4] at hplN
      cases hplN
    refine ⟨_, rfl, kd, _, rfl, DPut.k (k := kgP) hkP big4, ?_⟩
    refine ⟨_, rfl, _, rfl, kd, _, rfl, DPut.k (k := kgS) upd_same (big5 pl), ?_⟩
    have hkG : (upd (upd HP kd (.dK (putK (knT4 el hd wl room) kgP (.ref pl)))) kd (.dK (putK (putK (knT4 el hd wl room) kgP (.ref pl)) kgS (.bl st)))) kd = some (.dK (knT el hd wl pl room st)) := upd_same
    have oth : ∀ b o, b ≠ kd → HP b = some o → (upd (upd HP kd (.dK (putK (knT4 el hd wl room) kgP (.ref pl)))) kd (.dK (putK (putK (knT4 el hd wl room) kgP (.ref pl)) kgS (.bl st)))) b = some o := fun b o n h => by
      rw [upd_ne n, upd_ne n]
      exact h
    generalize (upd (upd HP kd (.dK (putK (knT4 el hd wl room) kgP (.ref pl)))) kd (.dK (putK (putK (knT4 el hd wl room) kgP (.ref pl)) kgS (.bl st)))) = HG at hkG oth ⊢
    have bDG : ∀ b o, b ≠ tp → HD b = some o → HG b = some o := fun b o nb hb => oth b o (ne_of_none hb hkd) (bP b o nb (sG4 b o hb))
    have tG : Tp HG tp := by
      obtain ⟨z, hz⟩ := tP
      exact ⟨z, oth _ _ nkt.symm hz⟩
    have nwt : wl ≠ tp := wls_tp hwG4 tG4
    have hwG : HG wl = some (.lst ((ws.drop nn.toNat).map V.str)) := oth _ _ nwk (bP _ _ nwt hwG4)
    have nwp : wl ≠ pl := ne_of_none hwG4 hplN
    have wPG : Wls HG pl js := ⟨oth _ _ npk wPl.1, wPl.2⟩
    have net : el ≠ tp := wls_tp wCe.1 tC
    have ndt : hd ≠ tp := by
      obtain ⟨z, hz⟩ := tC
      exact ne_of hCd hz (fun y => by cases y)
    have nep : el ≠ pl := ne_of_none (sG4 _ _ (sD _ _ wCe.1)) hplN
    have nnp : np ≠ pl := ne_of_none (sG4 _ _ hD) hplN
    have nnt : np ≠ tp := wls_tp hD (tC.same sD)
    have hpl0 : H' pl = none := by
      cases e : H' pl with
      | none => rfl
      | some o =>
        rw [sG4 _ _ (sD _ _ (sC _ _ e))] at hplN
        cases hplN
    have gG : GT HG tp kd wl pl (hFof fs kvs) (ws.drop nn.toNat) js := ⟨tG, ⟨hwG, fun x hx => wC.2 x (List.mem_of_mem_drop hx)⟩, wPG, by rw [List.length_drop]; omega, by omega, nwp,
      el, hd, fs, kvs, room, st, hkG, by omega, hr40, nwe, nep, ⟨bDG _ _ net (sD _ _ wCe.1), wCe.2⟩, by omega, by omega, bDG _ _ ndt (sD _ _ hCd), fun f hf => let ⟨n, e1, e2, e3⟩ := hkv f hf; ⟨n, e1, e2, e3, hFof_at hf e1⟩⟩
    have sXG : Same H' HG := fun b o hb => bDG b o (ne_of_none hb htp) (sD _ _ (sC b o hb))
    have wG : Wls HG np (ws.take nn.toNat) := ⟨bDG _ _ nnt hD, fun x hx => wC.2 x (List.mem_of_mem_take hx)⟩
    -- the errand
    refine ⟨_, rfl, .inl ⟨rfl, _, SqL.of (sXG _ _ hfA)⟩, _, rfl, _, rfl, el, _, _, _, rfl, rfl, SqL.of (bDG _ _ net (sD _ _ wCe.1)), hat, _, rfl, np, _, rfl, .inl ⟨SqL.of wG.1, fun tl htl => ?_⟩⟩
    have sH := same_new htl (.tup ((ws.take nn.toNat).map V.str))
    refine ⟨_, rfl, _, rfl, _, rfl, tp, kd, wl, pl, np, hFof fs kvs, ws.drop nn.toNat, js, ws.take nn.toNat, rfl, gG.same sH, wG.but (but_same sH) gG.t, nwn, nnp, by rw [List.length_drop]; omega, by rw [List.length_take, List.length_drop]; omega, by omega, fun a t HI wsI jsI ls ms O => ?_⟩
    refine ⟨sz (by show 3 ≤ 100000; decide), fun ep hep => ?_⟩
    have sJ := same_new hep (.tup [.str fn, .ref tl, .ref a])
    have tkI : TK (upd HG tl (.tup ((ws.take nn.toNat).map V.str))) HI := (gG.same sH).tk O.b
    have sX : Same H' HI := fun b o hb => O.b _ _ (ne_of_none hb htp) (ne_of_none hb hwl0) (ne_of_none hb hpl0) (sH _ _ (sXG _ _ hb))
    have sXJ := sX.trans sJ
    have hfJ := sXJ _ _ hfA
    have hvl := kA.len
    refine ⟨fl, _, _, rfl, rfl, hfJ, Nat.lt_of_le_of_lt (m := 1000) (by omega) (by decide), ?_⟩
    have tkJ := (tk_same sXJ).trans (tk_put (o := .lst (vs ++ [.ref ep])) hfJ)
    have tkP := tk_put (o := .lst (vs ++ [.ref ep])) hfJ
    refine ⟨_, _, _, _, _, vs ++ [.ref ep], es ++ [(fn, ws.take nn.toNat, t)], rfl, same_mut (sA.trans sXJ) hflN, upd_same, ?_, ?_, ?_, ?_⟩
    · refine (kA.imp fun _ _ z => z.tk tkJ).app ⟨⟨ep, tl, a, rfl, tkP _ _ upd_same, tkP _ _ (sJ _ _ (tkI _ _ upd_same)), (O.at_.tk (tk_same sJ)).tk tkP⟩, trivial⟩
    · rw [List.length_append, hel2]
      rfl
    · rw [List.map_append, hnm, List.take_succ_eq_append_getElem hi]
      have e : fs[i] = fn := by
        rw [List.getElem?_eq_getElem hi] at hfi
        exact Option.some.inj hfi
      rw [e]
      rfl
    · intro e he
      rcases List.mem_append.mp he with z | z
      · exact hgd e z
      · rw [List.mem_singleton.mp z]
        have etk : (ws.take nn.toNat).length = nn.toNat := by
          rw [List.length_take]
          omega
        refine ⟨w8.2 fn hfm, fun x hx => wC.2 x (List.mem_of_mem_take hx), by show (ws.take nn.toNat).length ≤ 4; omega, O.ok, O.cn, ?_, ?_, ?_⟩
        · show hFof fs kvs fn = some (ws.take nn.toNat).length
          rw [etk]
          exact hFof_at hfm hnn
        · show (ws.take nn.toNat ++ wP t).Nodup
          have e9 : ws = ws.take nn.toNat ++ (wsI ++ ls.reverse) := by rw [← O.e1, List.take_append_drop]
          rw [e9] at hwnd
          rw [List.nodup_append] at hwnd ⊢
          obtain ⟨n1, n2, n3⟩ := hwnd
          have n4 := (List.nodup_append.mp n2).2.1
          have n5 : ls.Nodup := (List.reverse_perm ls).nodup_iff.mp n4
          exact ⟨n1, n5.sublist O.s1, fun a ha b hb => n3 a ha b (List.mem_append_right _ (List.mem_reverse.mpr (O.s1.subset hb)))⟩
        · show (jP t).Nodup
          have n2 := hjnd
          rw [O.e2] at n2
          have n4 := (List.nodup_append.mp n2).2.1
          have n5 : ms.Nodup := (List.reverse_perm ms).nodup_iff.mp n4
          exact n5.sublist O.s2
  · rintro σ H' ⟨o8, o9, o10, o11, o12, vs, es, rfl, sA, hfA, kA, hel2, hnm, hgd⟩
    rw [hnl] at hel2 hnm
    rw [List.take_length] at hnm
    refine ⟨_, rfl, fl, _, rfl, .inl ⟨SqL.of hfA, fun p hp9 => ?_⟩⟩
    have sK := same_new hp9 (.tup vs)
    refine q p es vs _ ((sH8.trans sA).trans sK) ⟨upd_same, kA.imp fun _ _ z => z.tk (tk_same sK)⟩ ⟨by omega, by rw [hnm]; exact hnd, _, hgd, fun f n hf => by rw [hnm]; exact hFof_in hf⟩
end
end KB

namespace KB
open PySem L2 HT
theorem layAll : ∀ {ds : List PyData}, (∀ d ∈ ds, d.canLay0 = true) → PySem.PyData.canLayAll0 ds = true
  | [], _ => rfl
  | d :: r, h => by
    show (d.canLay0 && PySem.PyData.canLayAll0 r) = true
    rw [h d List.mem_cons_self, layAll fun x hx => h x (List.mem_cons_of_mem _ hx)]
    rfl
theorem depthAll_le {m : Nat} : ∀ {ds : List PyData}, (∀ d ∈ ds, d.depth ≤ m) → PySem.PyData.depthAll ds ≤ m
  | [], _ => Nat.zero_le _
  | d :: r, h => by
    show max d.depth (PySem.PyData.depthAll r) ≤ m
    have h1 := h d List.mem_cons_self
    have h2 := depthAll_le fun x hx => h x (List.mem_cons_of_mem _ hx)
    omega
theorem depth_tup {m : Nat} {ds : List PyData} (h : ∀ d ∈ ds, d.depth ≤ m) : (PyData.tuple ds).depth ≤ m + 1 := by
  show PySem.PyData.depthAll ds + 1 ≤ m + 1
  have := depthAll_le h
  omega
theorem depth_lst {m : Nat} {ds : List PyData} (h : ∀ d ∈ ds, d.depth ≤ m) : (PyData.list ds).depth ≤ m + 1 := by
  show PySem.PyData.depthAll ds + 1 ≤ m + 1
  have := depthAll_le h
  omega
theorem lay_lit {x : Str} (h : PySem.PyData.strOk x = true) : (PyData.str x).canLay0 = true := h
theorem lay_str {x : Str} (h : isW x = true) : (PyData.str x).canLay0 = true := isW_ok h
/-! ### terms as data -/
def pdH : Hd → List PyData → PyData
  | .num z, _ => .tuple [.str "number", .int z]
  | .nam x, _ => .tuple [.str "name", .str x]
  | .plus, ds => .tuple (.str "plus" :: ds)
  | .less, ds => .tuple (.str "less" :: ds)
  | .tell, ds => .tuple (.str "tell" :: ds)
  | .lett x, ds => .tuple (.str "let" :: .str x :: ds)
  | .iff, ds => .tuple (.str "if" :: ds)
  | .ask f, ds => .tuple [.str "ask", .str f, .tuple ds]
def pd : Tm → PyData
  | .mk h _ k => pdH h (List.ofFn fun i => pd (k i))
theorem dp_fn {K : PySem.W.Frag} {H : Hp} : ∀ {n : Nat} {ys : _root_.Fin n → Addr} {ds : _root_.Fin n → PyData}, (∀ i, Dp K H (.ref (ys i)) (ds i)) → DpAll K H (Rfs ys) (List.ofFn ds)
  | 0, _, _, _ => .nil
  | n + 1, ys, ds, h => by
    unfold Rfs
    rw [List.ofFn_succ, List.ofFn_succ]
    exact .cons (h 0) (dp_fn (ys := fun i => ys i.succ) (ds := fun i => ds i.succ) fun i => h i.succ)
theorem dp_at {K : PySem.W.Frag} {H : Hp} : ∀ {t : Tm} {a : Addr}, At H t a → Dp K H (.ref a) (pd t) := by
  intro t
  induction t with
  | mk h n k ih =>
    rintro a ⟨ys, l, r⟩
    have d : DpAll K H (Rfs ys) (List.ofFn fun i => pd (k i)) := dp_fn fun i => ih i (r i)
    show Dp K H (.ref a) (pdH h (List.ofFn fun i => pd (k i)))
    generalize (List.ofFn fun i => pd (k i)) = ds at d
    cases h with
    | num z => exact .tup (SqT.of l.2) (.cons (.str _) (.cons (.int _) .nil))
    | nam z => exact .tup (SqT.of l.2) (.cons (.str _) (.cons (.str _) .nil))
    | lett x => exact .tup (SqT.of l.2) (.cons (.str _) (.cons (.str _) d))
    | ask f =>
      obtain ⟨_, p, h1, h2⟩ := l
      exact .tup (SqT.of h1) (.cons (.str _) (.cons (.str _) (.cons (.tup (SqT.of h2) d) .nil)))
    | _ => exact .tup (SqT.of l.2) (.cons (.str _) d)
theorem lay_pdH {h : Hd} {ds : List PyData} (o : okH h) (l : ∀ d ∈ ds, d.canLay0 = true) : (pdH h ds).canLay0 = true := by
  have la := layAll l
  cases h with
  | num z =>
    refine layAll fun d hd => ?_
    rcases List.mem_cons.mp hd with y | y
    · rw [y]
      exact lay_lit (by decide +kernel)
    · rw [List.mem_singleton.mp y]
      rfl
  | nam x =>
    refine layAll fun d hd => ?_
    rcases List.mem_cons.mp hd with z | z
    · rw [z]
      exact lay_lit (by decide +kernel)
    · rw [List.mem_singleton.mp z]
      exact isV_ok o
  | lett x =>
    refine layAll fun d hd => ?_
    rcases List.mem_cons.mp hd with z | z
    · rw [z]
      exact lay_lit (by decide +kernel)
    · rcases List.mem_cons.mp z with z | z
      · rw [z]
        exact lay_str o
      · exact l d z
  | ask f =>
    refine layAll fun d hd => ?_
    rcases List.mem_cons.mp hd with z | z
    · rw [z]
      exact lay_lit (by decide +kernel)
    · rcases List.mem_cons.mp z with z | z
      · rw [z]
        exact lay_str o
      · rw [List.mem_singleton.mp z]
        exact la
  | _ =>
    refine layAll fun d hd => ?_
    rcases List.mem_cons.mp hd with z | z
    · rw [z]
      exact lay_lit (by decide +kernel)
    · exact l d z
theorem lay_pd : ∀ {t : Tm}, okT t → (pd t).canLay0 = true := by
  intro t
  induction t with
  | mk h n k ih =>
    rintro ⟨o, r⟩
    refine lay_pdH o fun d hd => ?_
    obtain ⟨i, rfl⟩ := List.mem_ofFn.mp hd
    exact ih i (r i)
theorem depth_pdH {h : Hd} {m : Nat} {ds : List PyData} (l : ∀ d ∈ ds, d.depth ≤ m) : (pdH h ds).depth ≤ m + 2 := by
  cases h with
  | num z => exact Nat.le_trans (depth_tup (m := 0) fun d hd => by
      rcases List.mem_cons.mp hd with y | y
      · rw [y]
        exact Nat.le_refl 0
      · rw [List.mem_singleton.mp y]
        exact Nat.le_refl 0) (by omega)
  | nam x => exact Nat.le_trans (depth_tup (m := 0) fun d hd => by
      rcases List.mem_cons.mp hd with z | z
      · rw [z]
        exact Nat.le_refl 0
      · rw [List.mem_singleton.mp z]
        exact Nat.le_refl 0) (by omega)
  | lett x =>
    refine Nat.le_trans (depth_tup (m := m) fun d hd => ?_) (by omega)
    rcases List.mem_cons.mp hd with z | z
    · rw [z]
      exact Nat.zero_le _
    · rcases List.mem_cons.mp z with z | z
      · rw [z]
        exact Nat.zero_le _
      · exact l d z
  | ask f =>
    refine depth_tup (m := m + 1) fun d hd => ?_
    rcases List.mem_cons.mp hd with z | z
    · rw [z]
      exact Nat.zero_le _
    · rcases List.mem_cons.mp z with z | z
      · rw [z]
        exact Nat.zero_le _
      · rw [List.mem_singleton.mp z]
        exact depth_tup l
  | _ =>
    refine Nat.le_trans (depth_tup (m := m) fun d hd => ?_) (by omega)
    rcases List.mem_cons.mp hd with z | z
    · rw [z]
      exact Nat.zero_le _
    · exact l d z
theorem depth_pd : ∀ {n : Nat} {t : Tm}, HtLe n t → (pd t).depth ≤ 2 * n
  | 0, _, h => h.elim
  | n + 1, .mk h m k, r => by
    refine Nat.le_trans (depth_pdH (h := h) (m := 2 * n) fun d hd => ?_) (by omega)
    obtain ⟨i, rfl⟩ := List.mem_ofFn.mp hd
    exact depth_pd (r i)
theorem eqv_self {d : PyData} (h : SeqAt.shaped d = true) : PyData.eqv d d = true := SeqAt.eqv_refl d (SeqAt.canLay_of_shaped h)
theorem dp_ints {K : PySem.W.Frag} {H : Hp} : ∀ ks : List Int, DpAll K H (ks.map V.int) (ks.map PyData.int)
  | [] => .nil
  | k :: r => .cons (.int k) (dp_ints r)
/-! ### parts of turned books as data -/
def pdP : Pt → PyData
  | .give j t => .tuple [.str "give", .str j, pd t]
  | .ask f ts j => .tuple [.str "ask", .str f, .tuple (ts.map pd), .str j]
  | .tell x t p => .tuple [.str "tell", .str x, pd t, pdP p]
  | .lett x t p => .tuple [.str "let", .str x, pd t, pdP p]
  | .iff t p q => .tuple [.str "if", pd t, pdP p, pdP q]
  | .post j x p q => .tuple [.str "post", .str j, .str x, pdP p, pdP q]
theorem dp_refs {K : PySem.W.Frag} {H : Hp} : ∀ {ts : List Tm} {xs : List V}, All2 (RefV H) ts xs → DpAll K H xs (ts.map pd)
  | [], [], _ => .nil
  | _ :: _, _ :: _, ⟨⟨b, e, h⟩, r⟩ => by
    rw [e]
    exact .cons (dp_at h) (dp_refs r)
  | [], _ :: _, h => h.elim
  | _ :: _, [], h => h.elim
theorem dp_pat {K : PySem.W.Frag} {H : Hp} : ∀ {p : Pt} {a : Addr}, PAt H p a → Dp K H (.ref a) (pdP p)
  | .give j t, a, ⟨b, h1, h2⟩ => .tup (SqT.of h1) (.cons (.str _) (.cons (.str _) (.cons (dp_at h2) .nil)))
  | .ask f ts j, a, ⟨q, vs, h1, h2, h3⟩ => .tup (SqT.of h1) (.cons (.str _) (.cons (.str _) (.cons (.tup (SqT.of h2) (dp_refs h3)) (.cons (.str _) .nil))))
  | .tell x t p, a, ⟨b, c, h1, h2, h3⟩ => .tup (SqT.of h1) (.cons (.str _) (.cons (.str _) (.cons (dp_at h2) (.cons (dp_pat h3) .nil))))
  | .lett x t p, a, ⟨b, c, h1, h2, h3⟩ => .tup (SqT.of h1) (.cons (.str _) (.cons (.str _) (.cons (dp_at h2) (.cons (dp_pat h3) .nil))))
  | .iff t p q, a, ⟨b, c, d, h1, h2, h3, h4⟩ => .tup (SqT.of h1) (.cons (.str _) (.cons (dp_at h2) (.cons (dp_pat h3) (.cons (dp_pat h4) .nil))))
  | .post j x p q, a, ⟨c, d, h1, h2, h3⟩ => .tup (SqT.of h1) (.cons (.str _) (.cons (.str _) (.cons (.str _) (.cons (dp_pat h2) (.cons (dp_pat h3) .nil)))))
/-- a simple term, good -/
structure STm (t : Tm) : Prop where
  ok : okT t
  si : simple t = true
  cn : cnt t ≤ 3
  ht : HtLe 2 t
theorem SmT.st {hd : Str → Option Nat} {xs : List Str} {t : Tm} (h : SmT hd xs t) : STm t := ⟨h.ok, h.si, h.cn, h.ht⟩
/-- a part whose words are words -/
def kP : Pt → Prop
  | .give j t => PySem.PyData.strOk j = true ∧ STm t
  | .ask f ts j => PySem.PyData.strOk j = true ∧ isW f = true ∧ ts.length ≤ 4 ∧ ∀ t ∈ ts, STm t
  | .tell x t p => isW x = true ∧ STm t ∧ kP p
  | .lett x t p => isW x = true ∧ STm t ∧ kP p
  | .iff t p q => STm t ∧ kP p ∧ kP q
  | .post j x p q => isV j = true ∧ isV x = true ∧ kP p ∧ kP q
theorem okP_kP {hd : Str → Option Nat} : ∀ {p : Pt} {xs hs : List Str}, (∀ j ∈ hs, PySem.PyData.strOk j = true) → okP hd p xs hs → kP p
  | .give j t, _, _, hh, h => ⟨hh _ h.1, h.2.st⟩
  | .ask f ts j, _, _, hh, h => ⟨hh _ h.1, h.2.1, h.2.2.2.1, fun t ht => (h.2.2.2.2 t ht).st⟩
  | .tell x t p, _, _, hh, h => ⟨h.1, h.2.1.st, okP_kP hh h.2.2⟩
  | .lett x t p, _, _, hh, h => ⟨h.1, h.2.1.st, okP_kP hh h.2.2⟩
  | .iff t p q, _, _, hh, h => ⟨h.1.st, okP_kP hh h.2.1, okP_kP hh h.2.2⟩
  | .post j x p q, _, _, hh, h => ⟨isV_of h.1, isV_of h.2.1, okP_kP hh h.2.2.1, okP_kP (fun k hk => by
      rcases List.mem_append.mp hk with z | z
      · exact hh k z
      · rw [List.mem_singleton.mp z]
        exact isW_ok h.1) h.2.2.2⟩
theorem STm.lay {t : Tm} (h : STm t) : (pd t).canLay0 = true := lay_pd h.ok
theorem STm.dep {t : Tm} (h : STm t) : (pd t).depth ≤ 4 := depth_pd h.ht
theorem lay_cons {d : PyData} {ds : List PyData} (h1 : d.canLay0 = true) (h2 : PySem.PyData.canLayAll0 ds = true) : PySem.PyData.canLayAll0 (d :: ds) = true := Bool.and_eq_true_iff.mpr ⟨h1, h2⟩
theorem lay_pdP : ∀ {p : Pt}, kP p → (pdP p).canLay0 = true
  | .give j t, h => lay_cons (lay_lit (by decide +kernel)) (lay_cons (lay_lit h.1) (lay_cons h.2.lay rfl))
  | .ask f ts j, h => lay_cons (lay_lit (by decide +kernel)) (lay_cons (lay_str h.2.1) (lay_cons (layAll (ds := ts.map pd) fun d hd => by
      obtain ⟨t, ht, rfl⟩ := List.mem_map.mp hd
      exact (h.2.2.2 t ht).lay) (lay_cons (lay_lit h.1) rfl)))
  | .tell x t p, h => lay_cons (lay_lit (by decide +kernel)) (lay_cons (lay_str h.1) (lay_cons h.2.1.lay (lay_cons (lay_pdP h.2.2) rfl)))
  | .lett x t p, h => lay_cons (lay_lit (by decide +kernel)) (lay_cons (lay_str h.1) (lay_cons h.2.1.lay (lay_cons (lay_pdP h.2.2) rfl)))
  | .iff t p q, h => lay_cons (lay_lit (by decide +kernel)) (lay_cons h.1.lay (lay_cons (lay_pdP h.2.1) (lay_cons (lay_pdP h.2.2) rfl)))
  | .post j x p q, h => lay_cons (lay_lit (by decide +kernel)) (lay_cons (lay_lit (isV_ok h.1)) (lay_cons (lay_lit (isV_ok h.2.1)) (lay_cons (lay_pdP h.2.2.1) (lay_cons (lay_pdP h.2.2.2) rfl))))
theorem dep_str {m : Nat} {z : Str} : (PyData.str z).depth ≤ m := Nat.zero_le m
theorem depth_pdP : ∀ {p : Pt}, kP p → (pdP p).depth ≤ pcnt p + 5
  | .give j t, h => depth_tup (m := 5) (by
      intro d hd
      simp only [List.mem_cons, List.not_mem_nil, or_false] at hd
      rcases hd with z | z | z <;> subst z
      · exact dep_str
      · exact dep_str
      · exact Nat.le_trans h.2.dep (by decide))
  | .ask f ts j, h => depth_tup (m := 5) (by
      intro d hd
      simp only [List.mem_cons, List.not_mem_nil, or_false] at hd
      rcases hd with z | z | z | z <;> subst z
      · exact dep_str
      · exact dep_str
      · refine depth_tup (m := 4) fun d hd => ?_
        obtain ⟨t, ht, rfl⟩ := List.mem_map.mp hd
        exact (h.2.2.2 t ht).dep
      · exact dep_str)
  | .tell x t p, h => by
      have ih := depth_pdP h.2.2
      refine Nat.le_trans (depth_tup (m := pcnt p + 5) ?_) (by show pcnt p + 5 + 1 ≤ 1 + pcnt p + 5; omega)
      intro d hd
      simp only [List.mem_cons, List.not_mem_nil, or_false] at hd
      rcases hd with z | z | z | z <;> subst z
      · exact dep_str
      · exact dep_str
      · exact Nat.le_trans h.2.1.dep (by omega)
      · exact ih
  | .lett x t p, h => by
      have ih := depth_pdP h.2.2
      refine Nat.le_trans (depth_tup (m := pcnt p + 5) ?_) (by show pcnt p + 5 + 1 ≤ 1 + pcnt p + 5; omega)
      intro d hd
      simp only [List.mem_cons, List.not_mem_nil, or_false] at hd
      rcases hd with z | z | z | z <;> subst z
      · exact dep_str
      · exact dep_str
      · exact Nat.le_trans h.2.1.dep (by omega)
      · exact ih
  | .iff t p q, h => by
      have ih1 := depth_pdP h.2.1
      have ih2 := depth_pdP h.2.2
      refine Nat.le_trans (depth_tup (m := pcnt p + pcnt q + 5) ?_) (by show pcnt p + pcnt q + 5 + 1 ≤ 1 + pcnt p + pcnt q + 5; omega)
      intro d hd
      simp only [List.mem_cons, List.not_mem_nil, or_false] at hd
      rcases hd with z | z | z | z <;> subst z
      · exact dep_str
      · exact Nat.le_trans h.1.dep (by omega)
      · omega
      · omega
  | .post j x p q, h => by
      have ih1 := depth_pdP h.2.2.1
      have ih2 := depth_pdP h.2.2.2
      refine Nat.le_trans (depth_tup (m := pcnt p + pcnt q + 5) ?_) (by show pcnt p + pcnt q + 5 + 1 ≤ 1 + pcnt p + pcnt q + 5; omega)
      intro d hd
      simp only [List.mem_cons, List.not_mem_nil, or_false] at hd
      rcases hd with z | z | z | z | z <;> subst z
      · exact dep_str
      · exact dep_str
      · exact dep_str
      · omega
      · omega
/-! ### all parts and terms of a part, counted -/
def ncnt : Pt → Nat
  | .give _ t => 1 + cnt t
  | .ask _ ts _ => 1 + cnts ts
  | .tell _ t p => 1 + cnt t + ncnt p
  | .lett _ t p => 1 + cnt t + ncnt p
  | .iff t p q => 1 + cnt t + ncnt p + ncnt q
  | .post _ _ p q => 1 + ncnt p + ncnt q
theorem cnts_le {ts : List Tm} (h : ∀ t ∈ ts, STm t) : cnts ts ≤ 3 * ts.length := by
  induction ts with
  | nil => exact Nat.le_refl _
  | cons t r ih =>
    have h1 := (h t List.mem_cons_self).cn
    have h2 := ih fun u hu => h u (List.mem_cons_of_mem _ hu)
    rw [cnts_cons, List.length_cons]
    omega
theorem ncnt_le : ∀ {p : Pt}, kP p → ncnt p ≤ 13 * pcnt p
  | .give j t, h => by
    have := h.2.cn
    show 1 + cnt t ≤ 13 * 1
    omega
  | .ask f ts j, h => by
    have := cnts_le h.2.2.2
    have := h.2.2.1
    show 1 + cnts ts ≤ 13 * 1
    omega
  | .tell x t p, h => by
    have := h.2.1.cn
    have := ncnt_le h.2.2
    show 1 + cnt t + ncnt p ≤ 13 * (1 + pcnt p)
    omega
  | .lett x t p, h => by
    have := h.2.1.cn
    have := ncnt_le h.2.2
    show 1 + cnt t + ncnt p ≤ 13 * (1 + pcnt p)
    omega
  | .iff t p q, h => by
    have := h.1.cn
    have := ncnt_le h.2.1
    have := ncnt_le h.2.2
    show 1 + cnt t + ncnt p + ncnt q ≤ 13 * (1 + pcnt p + pcnt q)
    omega
  | .post j x p q, h => by
    have := ncnt_le h.2.2.1
    have := ncnt_le h.2.2.2
    show 1 + ncnt p + ncnt q ≤ 13 * (1 + pcnt p + pcnt q)
    omega
end KB

namespace HT
open PySem PySem.Spec PyProof.Rows
section
variable {prog : Program} {w : World} {A : Around} {E : Value → Shared → Prop} {s : Shared}
theorem sliceApplied_rev {sl : Addr} {vk : Value} {n : Nat} {Q : Int × Int × Nat → Shared → Prop} (hs : s.heap.IsSliceOf sl .none .none vk) (pk : IsPart vk (some (-1)))
    (h : Q ((n : Int) - 1, -1, n) s) : wpAny (model prog w) A (Builtin.Slice.sliceApplied (.ref sl) (pure (n : Int))) Q E s := by
  obtain ⟨os, hos, hcs, hds⟩ := id hs
  unfold Builtin.Slice.sliceApplied Builtin.Slice.sliceFields
  refine wpAny_bind (wpAny_bind (wpAny_field hos hds (x := .none) rfl (wpAny_bind (wpAny_field hos hds (x := .none) rfl (wpAny_bind (wpAny_field hos hds (x := vk) rfl (wpAny_pure ?_)))))))
  refine wpAny_bind (slicePart_ pk ?_)
  show wpAny _ _ (if ((-1 : Int) == 0) = true then _ else _) _ _ s
  rw [if_neg (by decide)]
  refine wpAny_bind (slicePart_none (wpAny_bind (slicePart_none (wpAny_bind (wpAny_pure ?_)))))
  show wpAny _ _ (pure ((n : Int) - 1, (-1 : Int), Builtin.Slice.slicePlaces ((n : Int) - 1) (-1) (-1))) _ _ s
  have e : Builtin.Slice.slicePlaces ((n : Int) - 1) (-1) (-1) = n := by
    unfold Builtin.Slice.slicePlaces
    have h1 : ¬ ((-1 : Int) > 0) := by omega
    have h2 : (-(-1) : Int) = 1 := by decide
    simp only [h1, if_false, h2, Int.ediv_one]
    split <;> omega
  rw [e]
  exact wpAny_pure h
theorem pick_rev (xs : Array Value) : ((List.range xs.size).filterMap fun (m : Nat) => xs[(((xs.size : Nat) : Int) - 1 + (m : Int) * (-1)).toNat]?).toArray = xs.toList.reverse.toArray := by
  have e : (fun (m : Nat) => xs[(((xs.size : Nat) : Int) - 1 + (m : Int) * (-1)).toNat]?) = fun m => xs[xs.size - 1 - m]? := by
    funext m
    have : (((xs.size : Nat) : Int) - 1 + (m : Int) * (-1)).toNat = xs.size - 1 - m := by omega
    rw [this]
  rw [e]
  have h := PySem.W.krv_range xs.size
  have e2 : (List.range xs.size).filterMap (fun m => xs[xs.size - 1 - m]?) = ((List.range xs.size).map fun k => xs.size - 1 - k).filterMap (xs[·]?) := by
    rw [List.filterMap_map]
    rfl
  rw [e2, h, List.filterMap_reverse, PySem.W.krv_all]
theorem getItem_tuple_rev {t sl : Addr} {items : Array Value} {vk : Value} {Q : Value → Shared → Prop} (ht : IsTup s.heap t items) (hs : s.heap.IsSliceOf sl .none .none vk) (pk : IsPart vk (some (-1)))
    (h : Q (.ref s.heap.objs.size) { s with heap := s.heap.push { cls := .type "tuple", data := .seq (items.toList.reverse).toArray } })
    (hsz : items.size ≤ sizeLine) : wpAny (model prog w) A (getItem (.ref t) (.ref sl)) Q E s := by
  have htake : sizeOk (.seq (items.toList.reverse).toArray) := by
    show (items.toList.reverse).toArray.size ≤ sizeLine
    rw [List.size_toArray, List.length_reverse, Array.length_toList]
    omega
  obtain ⟨os, hos, hcs, hds⟩ := id hs
  have hTs : s.TypeIs (.ref sl) "slice" := ⟨os, hos, hcs⟩
  unfold getItem
  try with_reducible refine wpAny_holding ?_
  first | refine wpAny_bind (wpAny_pure ?_) | skip
  refine wpAny_bind (wpAny_sequenceKey ht.typeIs (by decide) ?_)
  refine wpAny_bind (wpAny_callSpecial?_slot (name := Str.ofString "__getitem__") ht.typeIs PyProof.Rows.slot_tuple_getitem
    (wpAny_call_entry PyProof.Rows.slot_tuple_getitem ht.typeIs entry_tuple_getitem ?_ (args_tuple_getitem _ _)))
  show wpAny _ _ (Builtin.Tuple.tupleItemsOf (.ref t) >>= _) _ _ s
  refine wpAny_bind (tupleItemsOf_ ht ?_)
  refine wpAny_bind (wpAny_typeOf hTs ?_)
  rw [if_pos (by decide)]
  refine wpAny_bind (sliceApplied_rev hs pk ?_)
  have hno : ¬ ((((((items.size : Nat) : Int) - 1) == 0 && (-1 : Int) == 1 && items.size == items.size)) = true) := by
    intro q
    rw [Bool.and_eq_true, Bool.and_eq_true] at q
    exact absurd (eq_of_beq q.1.2) (by decide)
  show wpAny _ _ (if ((((items.size : Nat) : Int) - 1) == 0 && (-1 : Int) == 1 && items.size == items.size) = true then _ else _) _ _ s
  rw [if_neg hno, pick_rev]
  first
    | exact wpAny_bind (m := Builtin.Tuple.tupleExact _) (wpAny_newObj_type (wpAny_pure ⟨_, rfl, wpAny_pure h⟩) htake)
    | exact wpAny_bind (m := Builtin.Tuple.tupleExact _) (wpAny_newObj_type (wpAny_bind (wpAny_pure (wpAny_pure ⟨_, rfl, wpAny_pure h⟩))) htake)
    | exact wpAny_bind (wpAny_bind (m := Builtin.Tuple.tupleExact _) (wpAny_newObj_type (wpAny_pure (wpAny_pure ⟨_, rfl, wpAny_pure h⟩)) htake))
    | exact wpAny_bind (wpAny_bind (m := Builtin.Tuple.tupleExact _) (wpAny_newObj_type (wpAny_pure ⟨_, rfl, wpAny_pure h⟩) htake))
end
end HT

namespace KB
open PySem PySem.Spec PyProof.Rows L2
/-- t[::-1] of a tuple -/
def tRevT (K : PySem.W.Frag) (te : TE) (tk : TO) : TE := fun σ H Q => te σ H fun x H1 => tk σ H1 fun k H2 => k = some (-1) ∧ ∃ a xs, x = .ref a ∧ SqT K H2 a xs ∧ ∀ p, H2 p = none → Q (.ref p) (upd H2 p (.tup xs.reverse))
theorem pe_revT {X : Cx} {e : Expr} {te : TE} {st : Option Expr} {tk : TO} {pos p2 : Pos} (he : PE X e te) (hk : PO X st tk) (hs : ∀ a c : Addr, subscripted (.Slice none none st p2) false (.ref a) (.ref c) = operate [.ref a, .ref c] (getItem (.ref a) (.ref c)) := by intro _ _; rfl) : PE X (.Subscript e (.Slice none none st p2) pos) (tRevT X.K te tk) := by
  refine ⟨fun pins s σ H Q I h => ?_⟩
  refine Subscript_ (thn (he.run pins s σ H _ I h) fun v s1 ⟨x, H1, I1, r1, q1⟩ => ?_)
  refine wpAny_Slice (thn ((po_none (X := X)).run pins s1 σ H1 (fun l H' => l = none ∧ H' = H1) I1 ⟨rfl, rfl⟩) fun vl s2 ⟨l, H2, I2, pl, q2⟩ => thn ((po_none (X := X)).run pins s2 σ H2 (fun l H' => l = none ∧ H' = H1) I2 ⟨rfl, q2.2⟩) fun vu s3 ⟨u, H3, I3, pu, q3⟩ => ?_)
  obtain ⟨rfl, e2⟩ := q2
  obtain ⟨rfl, e3⟩ := q3
  subst e3
  cases pl
  cases pu
  refine thn (hk.run pins s3 σ H3 _ I3 q1) fun vk s4 ⟨k, H4, I4, pk, q4⟩ => ?_
  obtain ⟨rfl, a, xs, rfl, hx, q⟩ := q4
  have I5 : Inv X pins σ H4 { s4 with heap := s4.heap.push { cls := .type "slice", data := .fields #[.none, .none, vk] } } := I4.kept (t' := s4.toks) fun b ob q => Heap.get?_push_of_some _ q
  cases r1
  obtain ⟨its, r, ht, hz⟩ := I5.tuple hx
  have hlen : its.toArray.size = xs.length := by rw [List.size_toArray]; exact r.length.symm
  refine tail_any (T := "tuple") (ops := [.ref a, .ref s4.heap.objs.size]) ht.typeIs PyProof.Rows.slot_tuple_getitem.lookup ?_ (hs _ _)
  refine HT.getItem_tuple_rev ht (Heap.IsSliceOf.new ..) pk ?_ (by rw [hlen]; exact hz)
  refine ⟨.ref _, _, I5.laid (t' := s4.toks) (o := .tup xs.reverse) (fun b ob q => Heap.get?_push_of_some _ q) (Nat.le_refl _) ?_, rfl, q _ (I5.hok.fresh (Nat.le_refl _))⟩
  refine ⟨by rw [List.length_reverse]; exact hz, _, ?_, IsTup.new _ _⟩
  show Vals xs.reverse its.toArray.toList.reverse
  exact r.reverse
end KB

namespace KB
open PySem L2

/-! ### trees, whatever they are made of -/
def plL {N : Type} (pl : N → List (List Int × N)) : Nat → List N → List (List Int × N)
  | _, [] => []
  | j, t :: ts => (pl t).map (fun e => ((j : Int) :: e.1, e.2)) ++ plL pl (j + 1) ts
structure Tre (N : Type) where
  kids : N → List N
  sz : N → Nat
  pl : N → List (List Int × N)
  A : Hp → N → Addr → Prop
  tk : ∀ {H H' : Hp} {n : N} {a : Addr}, TK H H' → A H n a → A H' n a
  szk : ∀ n, sz n = 1 + ((kids n).map sz).sum
  plk : ∀ n, pl n = ([], n) :: plL pl 0 (kids n)
namespace Tre
variable {N : Type} (R : Tre N)
def V (H : Hp) (n : N) (v : L2.V) : Prop := ∃ b, v = .ref b ∧ R.A H n b
def szs (ns : List N) : Nat := (ns.map R.sz).sum
def pre (n : N) : List N := (R.pl n).map (·.2)
def pres (ns : List N) : List N := (ns.map R.pre).flatten
theorem V.tk {R : Tre N} {H H' : Hp} (e : TK H H') {n : N} {v : L2.V} (h : R.V H n v) : R.V H' n v := let ⟨b, e1, h1⟩ := h; ⟨b, e1, R.tk e h1⟩
theorem szs_cons (n : N) (r : List N) : R.szs (n :: r) = R.sz n + R.szs r := rfl
theorem szs_app (a b : List N) : R.szs (a ++ b) = R.szs a + R.szs b := by
  unfold szs
  rw [List.map_append, List.sum_append]
theorem pos (n : N) : 1 ≤ R.sz n := by
  rw [R.szk]
  omega
theorem len_szs : ∀ ns : List N, ns.length ≤ R.szs ns
  | [] => Nat.le_refl _
  | n :: r => by
    have h1 := R.pos n
    have h2 := len_szs r
    rw [R.szs_cons, List.length_cons]
    omega
theorem pres_cons (n : N) (r : List N) : R.pres (n :: r) = R.pre n ++ R.pres r := rfl
theorem pres_app (a b : List N) : R.pres (a ++ b) = R.pres a ++ R.pres b := by
  unfold pres
  rw [List.map_append, List.flatten_append]
theorem plL_snd : ∀ (ns : List N) (j : Nat), (plL R.pl j ns).map (·.2) = R.pres ns
  | [], _ => rfl
  | n :: r, j => by
    show ((R.pl n).map (fun e => ((j : Int) :: e.1, e.2)) ++ plL R.pl (j + 1) r).map (·.2) = R.pre n ++ R.pres r
    rw [List.map_append, plL_snd r, List.map_map]
    rfl
theorem pre_mk (n : N) : R.pre n = n :: R.pres (R.kids n) := by
  unfold pre
  rw [R.plk, List.map_cons, R.plL_snd]
theorem plL_len (h : ∀ n, (R.pl n).length = R.sz n) : ∀ (ns : List N) (j : Nat), (plL R.pl j ns).length = R.szs ns
  | [], _ => rfl
  | n :: r, j => by
    show ((R.pl n).map (fun e => ((j : Int) :: e.1, e.2)) ++ plL R.pl (j + 1) r).length = R.sz n + R.szs r
    rw [List.length_append, List.length_map, plL_len h r, h n]
theorem mem_szs {n : N} {ns : List N} (h : n ∈ ns) : R.sz n ≤ R.szs ns := by
  induction ns with
  | nil => cases h
  | cons a r ih =>
    rw [R.szs_cons]
    rcases List.mem_cons.mp h with z | z
    · subst z
      omega
    · have := ih z
      omega
theorem pl_len (m : Nat) : ∀ n, R.sz n ≤ m → (R.pl n).length = R.sz n := by
  induction m with
  | zero => intro n h; have := R.pos n; omega
  | succ m ih =>
    intro n h
    have e := R.szk n
    have go : ∀ (ns : List N) (j : Nat), R.szs ns ≤ m → (plL R.pl j ns).length = R.szs ns := by
      intro ns
      induction ns with
      | nil => intro j _; rfl
      | cons a r ihr =>
        intro j hj
        rw [R.szs_cons] at hj ⊢
        show ((R.pl a).map (fun e => ((j : Int) :: e.1, e.2)) ++ plL R.pl (j + 1) r).length = _
        rw [List.length_append, List.length_map, ihr (j + 1) (by omega), ih a (by omega)]
    rw [R.plk, List.length_cons, go (R.kids n) 0 (by show ((R.kids n).map R.sz).sum ≤ m; omega), e]
    show R.szs (R.kids n) + 1 = 1 + R.szs (R.kids n)
    omega
theorem pl_short (m : Nat) : ∀ n, R.sz n ≤ m → ∀ e ∈ R.pl n, e.1.length < R.sz n := by
  induction m with
  | zero => intro n h; have := R.pos n; omega
  | succ m ih =>
    intro n h
    have e := R.szk n
    have go : ∀ (ns : List N) (j : Nat), R.szs ns ≤ m → ∀ e ∈ plL R.pl j ns, e.1.length ≤ R.szs ns := by
      intro ns
      induction ns with
      | nil => intro j _ e he; cases he
      | cons a r ihr =>
        intro j hj e he
        rw [R.szs_cons] at hj ⊢
        have he' : e ∈ (R.pl a).map (fun e => ((j : Int) :: e.1, e.2)) ++ plL R.pl (j + 1) r := he
        rcases List.mem_append.mp he' with z | z
        · obtain ⟨e', h1, rfl⟩ := List.mem_map.mp z
          have := ih a (by omega) e' h1
          show e'.1.length + 1 ≤ _
          omega
        · have := ihr (j + 1) (by omega) e z
          omega
    intro x hx
    rw [R.plk] at hx
    have e2 : R.sz n = 1 + R.szs (R.kids n) := e
    rcases List.mem_cons.mp hx with z | z
    · subst z
      show 0 < R.sz n
      omega
    · have := go (R.kids n) 0 (by omega) x z
      omega
theorem sz_pl (m : Nat) : ∀ n, R.sz n ≤ m → ∀ e ∈ R.pl n, R.sz e.2 ≤ R.sz n := by
  induction m with
  | zero => intro n h; have := R.pos n; omega
  | succ m ih =>
    intro n h
    have e := R.szk n
    have go : ∀ (ns : List N) (j : Nat), R.szs ns ≤ m → ∀ e ∈ plL R.pl j ns, R.sz e.2 ≤ R.szs ns := by
      intro ns
      induction ns with
      | nil => intro j _ e he; cases he
      | cons a r ihr =>
        intro j hj e he
        rw [R.szs_cons] at hj ⊢
        have he' : e ∈ (R.pl a).map (fun e => ((j : Int) :: e.1, e.2)) ++ plL R.pl (j + 1) r := he
        rcases List.mem_append.mp he' with z | z
        · obtain ⟨e', h1, rfl⟩ := List.mem_map.mp z
          have := ih a (by omega) e' h1
          show R.sz e'.2 ≤ _
          omega
        · have := ihr (j + 1) (by omega) e z
          omega
    intro x hx
    rw [R.plk] at hx
    have e2 : R.sz n = 1 + R.szs (R.kids n) := e
    rcases List.mem_cons.mp hx with z | z
    · subst z
      exact Nat.le_refl _
    · have := go (R.kids n) 0 (by omega) x z
      omega
end Tre
theorem All2.rev {α : Type} {S : α → V → Prop} : ∀ {as : List α} {vs : List V}, All2 S as vs → All2 S as.reverse vs.reverse
  | [], [], _ => trivial
  | a :: as, v :: vs, h => by
    rw [List.reverse_cons, List.reverse_cons]
    exact (All2.rev h.2).app ⟨h.1, trivial⟩
  | [], _ :: _, h => h.elim
  | _ :: _, [], h => h.elim

section
variable {P : Program} {w : World} {K : PySem.W.Frag} {mg : Str → Option Value} {base : Heap}
/-- what a function promises that tells the parts right in a part -/
def spKids {N : Type} (R : Tre N) : Sp := fun vs H Q _ => ∃ (n : N) (a : Addr), vs = [.ref a] ∧ R.A H n a ∧ ∀ p H' us, Same H H' → H' p = some (.tup us) → All2 (R.V H') (R.kids n) us → Q (.ref p) H'
/-! ### met -/
def spMet {N : Type} (R : Tre N) (g : Addr) : Sp := fun vs H Q _ => ∃ (n : N) (a : Addr), vs = [.ref a, .ref g] ∧ R.A H n a ∧ R.sz n ≤ 1000 ∧ ∀ p H' its, H p = none → Same H H' → H' p = some (.lst its) → All2 (R.V H') (R.pre n) its → Q (.ref p) H'
abbrev smet : Stmt := top 1
theorem scmet : FnScope ["body", "parts", "found", "waiting", "part"] ["body", "parts"] (defScope smet) := ⟨rfl, rfl, rfl, by decide +kernel, rfl, by decide +kernel, by decide +kernel⟩
def MetW {N : Type} (R : Tre N) (H : Hp) (a g fl wl : Addr) (n : N) (m : Nat) (σ : St) (H' : Hp) : Prop := ∃ o fv fs rs ts, σ = [some (.ref a), some (.ref g), some (.ref fl), some (.ref wl), o] ∧ Same H H' ∧ H' fl = some (.lst fv) ∧ All2 (R.V H') fs fv ∧ H' wl = some (.lst (List.reverse rs)) ∧ All2 (R.V H') ts rs ∧ m = R.szs ts ∧ fs.length + R.szs ts ≤ 1000 ∧ fs ++ R.pres ts = R.pre n
theorem ok_met {N : Type} (R : Tre N) {k : Nat} {f g : Addr} {fd gd : FuncData} {x : Str} (F : Fun K "met" "met" smet f fd) (Gparts : FnOk P w K mg base CX0 k g gd [x] (spKids R)) (kk : PySem.W.keepIn K (.ref g) = true) (bb : Binds K gd [x] []) : FnOk P w K mg base CX0 (k + 1) f fd ["body", "parts"] (spMet R g) := by
  refine F.ok scmet (fun vs H Q E h => ?_) (fun cdv A outer s H vs Q E hr h => ?_)
  · obtain ⟨n, a, rfl, _⟩ := h
    rfl
  obtain ⟨n, a, rfl, hA, hc, q⟩ := h
  refine ⟨_, (pss_cons (ps_set (i := 2) scmet.nd rfl (Or.inl rfl) (pe_lst pa_nil))
    (pss_cons (ps_set (i := 3) scmet.nd rfl (Or.inl rfl) (pe_lst (pa_cons (pv 0) pa_nil)))
    (pss_cons (ps_while PassesOwn.never (pt_truth (pv 3) (by intro _; rfl)) (pss_cons (ps_set (i := 4) scmet.nd rfl (Or.inl rfl) (pe_bm0 PySem.F.plainAttrs_list PySem.F.slot_list_pop PySem.F.type_list_pop mt_pop (pv 3)))
    (pss_cons (ps_expr (pe_bm PySem.F.plainAttrs_list PySem.F.slot_list_append PySem.F.type_list_append mt_append (pv 2) (pa_cons (pv 4) pa_nil)))
    (pss_one (ps_expr (pe_bm PySem.F.plainAttrs_list PySem.F.slot_list_extend PySem.F.type_list_extend mt_extT (pv 3) (pa_cons (pe_revT (pe_callL (i := 1) Gparts (hr.mono (by omega)) rfl (.inl rfl) kk bb .nil pass0 (pa_cons (pv 4) pa_nil)) (po_some (pe_un un_neg pe_int))) pa_nil)))))))
    (pss_one (ps_ret (pv 2)))))), ?_⟩
  refine ⟨sz (by show 0 ≤ 100000; decide), fun fl hfl => ?_⟩
  have s0 := same_new hfl (.lst [])
  have f0 : upd H fl (.lst []) fl = some (.lst []) := upd_same
  refine ⟨_, rfl, sz (by show 1 ≤ 100000; decide), fun wl hwl => ?_⟩
  have s1 := same_new hwl (.lst [.ref a])
  have hwf : fl ≠ wl := ne_of_none f0 hwl
  have sA := s0.trans s1
  refine ⟨MetW R H a g fl wl n, ⟨_, none, [], [], [.ref a], [n], rfl, sA, s1 _ _ f0, trivial, upd_same, ⟨⟨a, rfl, R.tk (tk_same sA) hA⟩, trivial⟩, rfl, ?_, ?_⟩, ?_⟩
  · show 0 + (R.sz n + 0) ≤ 1000
    omega
  · rw [R.pres_cons]
    exact List.append_nil _
  have hw0 : H wl = none := s0.free hwl
  clear s0 f0 hwl s1 sA
  rintro m σ H1 ⟨o, fv, fs, rs, ts, rfl, s1, h1, k1, h2, k2, rfl, hm, hP⟩
  refine ⟨_, rfl, _, .inl ⟨_, SqL.of h2, rfl⟩, ?_⟩
  cases rs with
  | nil =>
    cases ts with
    | cons _ _ => exact k2.elim
    | nil =>
      refine itF rfl ⟨_, rfl, ?_⟩
      have e : fs = R.pre n := by
        rw [← hP]
        exact (List.append_nil fs).symm
      subst e
      exact q _ _ _ hfl s1 h1 k1
  | cons r rs =>
    cases ts with
    | nil => exact k2.elim
    | cons t1 ts =>
      obtain ⟨⟨b, rfl, hb⟩, k3⟩ := k2
      refine itT (by simp) ⟨fun σ' H' => ∃ m', m' < R.szs (t1 :: ts) ∧ MetW R H a g fl wl n m' σ' H', fun _ _ z => z, ?_⟩
      -- part = waiting.pop()
      refine ⟨_, rfl, .inl ⟨rfl, _, SqL.of h2⟩, wl, _, .ref b, rfl, rfl, h2, by simp, ?_⟩
      have eD : ((V.ref b :: rs).reverse).dropLast = rs.reverse := by rw [List.reverse_cons, List.dropLast_concat]
      rw [eD]
      have tk2 : TK H1 (upd H1 wl (.lst rs.reverse)) := tk_put h2
      have s2 : Same H (upd H1 wl (.lst rs.reverse)) := same_mut s1 hw0
      have w2 : upd H1 wl (.lst rs.reverse) wl = some (.lst rs.reverse) := upd_same
      have f2 : upd H1 wl (.lst rs.reverse) fl = some (.lst fv) := by
        rw [upd_ne hwf]
        exact h1
      have k4 := k1.imp fun _ _ z => Tre.V.tk tk2 z
      have k5 := k3.imp fun _ _ z => Tre.V.tk tk2 z
      have b2 := R.tk tk2 hb
      clear tk2
      generalize upd H1 wl (.lst rs.reverse) = H2 at s2 w2 f2 k4 k5 b2
      -- found.append(part)
      have hfs := k4.len
      refine ⟨_, rfl, .inl ⟨rfl, _, SqL.of f2⟩, _, rfl, fl, _, _, rfl, rfl, f2, Nat.lt_of_le_of_lt (m := 1000) (by omega) (by decide), ?_⟩
      have tk3 : TK H2 (upd H2 fl (.lst (fv ++ [.ref b]))) := tk_put f2
      have s3 : Same H (upd H2 fl (.lst (fv ++ [.ref b]))) := same_mut s2 hfl
      have f3 : upd H2 fl (.lst (fv ++ [.ref b])) fl = some (.lst (fv ++ [.ref b])) := upd_same
      have w3 : upd H2 fl (.lst (fv ++ [.ref b])) wl = some (.lst rs.reverse) := by
        rw [upd_ne (Ne.symm hwf)]
        exact w2
      have b3 := R.tk tk3 b2
      have k6 : All2 (R.V _) (fs ++ [t1]) (fv ++ [.ref b]) := (k4.imp fun _ _ z => Tre.V.tk tk3 z).app ⟨⟨b, rfl, b3⟩, trivial⟩
      have k7 := k5.imp fun _ _ z => Tre.V.tk tk3 z
      clear tk3
      generalize upd H2 fl (.lst (fv ++ [.ref b])) = H3 at s3 f3 w3 b3 k6 k7
      -- waiting.extend(parts(part)[::-1])
      have hcm : R.szs (t1 :: ts) = 1 + R.szs (R.kids t1) + R.szs ts := by
        rw [R.szs_cons, R.szk]
        rfl
      refine ⟨_, rfl, .inl ⟨rfl, _, SqL.of w3⟩, rfl, _, rfl, t1, b, rfl, b3, fun p' H4 us s5 h4 kk4 => ?_⟩
      have hlen := kk4.len
      have k8 := k7.imp fun _ _ z => Tre.V.tk (tk_same s5) z
      have hlen2 := k8.len
      have z1 := R.len_szs (R.kids t1)
      have z2 := R.len_szs ts
      refine ⟨1, rfl, -1, rfl, rfl, p', _, rfl, SqT.of h4, fun p5 hp5 => ?_⟩
      have s6 := same_new hp5 (.tup us.reverse)
      have w6 := s6 _ _ (s5 _ _ w3)
      refine ⟨wl, p5, _, _, rfl, rfl, w6, SqT.of upd_same, sz (by rw [List.length_reverse, List.length_reverse]; omega), ?_⟩
      have s7 := s5.trans s6
      have tk8 := (tk_same s6).trans (tk_put (o := .lst (rs.reverse ++ us.reverse)) w6)
      refine ⟨R.szs (R.kids t1 ++ ts), ?_, some (.ref b), fv ++ [.ref b], fs ++ [t1], us ++ rs, R.kids t1 ++ ts, rfl, same_mut (s3.trans s7) hw0, ?_, ?_, ?_, ?_, rfl, ?_, ?_⟩
      · rw [R.szs_app, hcm]
        omega
      · rw [upd_ne hwf]
        exact s7 _ _ f3
      · exact (k6.imp fun _ _ z => Tre.V.tk (tk_same s5) z).imp fun _ _ z => Tre.V.tk tk8 z
      · rw [upd_same, List.reverse_append]
      · exact (kk4.imp fun _ _ z => Tre.V.tk tk8 z).app (k8.imp fun _ _ z => Tre.V.tk tk8 z)
      · rw [List.length_append, List.length_singleton, R.szs_app]
        omega
      · rw [← hP, R.pres_app, R.pres_cons, R.pre_mk]
        simp
/-! ### placed -/
/-- a tuple that begins with pre -/
def PlV (H : Hp) (pre : List V) (ks : List Int) (v : V) : Prop := ∃ r, v = .ref r ∧ H r = some (.tup (pre ++ ks.map V.int))
theorem PlV.tk {H H' : Hp} (e : TK H H') {pre : List V} {ks : List Int} {v : V} (h : PlV H pre ks v) : PlV H' pre ks v :=
  let ⟨r, e1, h1⟩ := h; ⟨r, e1, e _ _ h1⟩
/-- a place and its part -/
def EntV {N : Type} (A : Hp → N → Addr → Prop) (H : Hp) (pre : List V) (kt : List Int × N) (v : V) : Prop := ∃ q r b, v = .ref q ∧ H q = some (.tup [.ref r, .ref b]) ∧ H r = some (.tup (pre ++ kt.1.map V.int)) ∧ A H kt.2 b
theorem EntV.tk {N : Type} {A : Hp → N → Addr → Prop} {H H' : Hp} (ta : ∀ {n : N} {a : Addr}, TK H H' → A H n a → A H' n a) (e : TK H H') {pre : List V} {kt : List Int × N} {v : V} (h : EntV A H pre kt v) : EntV A H' pre kt v :=
  let ⟨q, r, b, e1, h1, h2, h3⟩ := h; ⟨q, r, b, e1, e _ _ h1, e _ _ h2, ta e h3⟩
def entsN {N : Type} (ks : List Int) : Nat → List N → List (List Int × N)
  | _, [] => []
  | j, t :: ts => (ks ++ [(j : Int)], t) :: entsN ks (j + 1) ts
theorem entsN_snd {N : Type} {ks : List Int} : ∀ {ts : List N} {j : Nat}, (entsN ks j ts).map (·.2) = ts
  | [], _ => rfl
  | t :: ts, j => by
    show t :: (entsN ks (j + 1) ts).map (·.2) = t :: ts
    rw [entsN_snd]
theorem entsN_drop {N : Type} {ks : List Int} {kl : List N} {i : Nat} (h : i < kl.length) : entsN ks i (kl.drop i) = (ks ++ [(i : Int)], kl[i]) :: entsN ks (i + 1) (kl.drop (i + 1)) := by
  rw [List.drop_eq_getElem_cons h]
  rfl
namespace Tre
variable {N : Type} (R : Tre N)
def at_ (ks : List Int) (l : List (List Int × N)) : List (List Int × N) := l.map fun e => (ks ++ e.1, e.2)
def spread (es : List (List Int × N)) : List (List Int × N) := (es.map fun kt => at_ kt.1 (R.pl kt.2)).flatten
def ecnt (es : List (List Int × N)) : Nat := R.szs (es.map (·.2))
theorem spread_cons {e : List Int × N} {r : List (List Int × N)} : R.spread (e :: r) = at_ e.1 (R.pl e.2) ++ R.spread r := rfl
theorem spread_app {a b : List (List Int × N)} : R.spread (a ++ b) = R.spread a ++ R.spread b := by
  unfold spread
  rw [List.map_append, List.flatten_append]
theorem spread_ents {ks : List Int} : ∀ {ts : List N} {j : Nat}, R.spread (entsN ks j ts) = at_ ks (plL R.pl j ts)
  | [], _ => rfl
  | t :: ts, j => by
    show R.spread ((ks ++ [(j : Int)], t) :: entsN ks (j + 1) ts) = at_ ks ((R.pl t).map (fun e => ((j : Int) :: e.1, e.2)) ++ plL R.pl (j + 1) ts)
    rw [R.spread_cons, spread_ents]
    unfold at_
    rw [List.map_append, List.map_map]
    congr 1
    refine List.map_congr_left fun p _ => ?_
    show ((ks ++ [(j : Int)]) ++ p.1, p.2) = (ks ++ ((j : Int) :: p.1), p.2)
    rw [List.append_assoc]
    rfl
end Tre
def spPlaced {N : Type} (R : Tre N) (gp : Addr) : Sp := fun vs H Q _ => ∃ (nm : Str) (a : Addr) (n : N), vs = [.str nm, .ref a, .ref gp] ∧ R.A H n a ∧ R.sz n ≤ 1000 ∧ ∀ p H' its, H p = none → Same H H' → H' p = some (.lst its) → All2 (EntV R.A H' [.str nm]) (R.pl n) its → Q (.ref p) H'
def PldW {N : Type} (R : Tre N) (H : Hp) (nm : Str) (a gp fl wl : Addr) (t : N) (m : Nat) (σ : St) (H' : Hp) : Prop := ∃ o1 o2 o3 o4 fs fv rs es, σ = [some (.str nm), some (.ref a), some (.ref gp), some (.ref fl), some (.ref wl), o1, o2, o3, o4] ∧ Same H H' ∧ H fl = none ∧ H wl = none ∧ fl ≠ wl ∧
  H' fl = some (.lst fv) ∧ All2 (EntV R.A H' [.str nm]) fs fv ∧ H' wl = some (.lst (List.reverse rs)) ∧ All2 (EntV R.A H' [.str nm]) es rs ∧ m = R.ecnt es ∧ fs.length + R.ecnt es ≤ 1000 ∧ fs ++ R.spread es = R.pl t
/-- within the loop over the parts, i of them put there -/
def PldI {N : Type} (R : Tre N) (H : Hp) (nm : Str) (a gp fl wl b ra pp : Addr) (fs : List (List Int × N)) (ks : List Int) (kl : List N) (es : List (List Int × N)) (ys : List V) (i : Nat) (σ : St) (H' : Hp) : Prop :=
  ∃ o4, σ = [some (.str nm), some (.ref a), some (.ref gp), some (.ref fl), some (.ref wl), some (.ref ra), some (.ref b), some (.ref pp), o4] ∧ Same H H' ∧ (∃ fv, H' fl = some (.lst fv) ∧ All2 (EntV R.A H' [.str nm]) fs fv) ∧
  (∃ rs, H' wl = some (.lst (List.reverse rs)) ∧ All2 (EntV R.A H' [.str nm]) (entsN ks (kl.length - i) (kl.drop (kl.length - i)) ++ es) rs) ∧ H' ra = some (.tup (.str nm :: ks.map V.int)) ∧ H' pp = some (.tup ys) ∧ All2 (R.V H') kl ys
end
end KB

namespace KB
open PySem L2

def termsP : Pt → List Tm
  | .give _ t => [t]
  | .ask _ ts _ => ts
  | .tell _ t _ => [t]
  | .lett _ t _ => [t]
  | .iff t _ _ => [t]
  | .post _ _ _ _ => []
def restP : Pt → List Pt
  | .give _ _ => []
  | .ask _ _ _ => []
  | .tell _ _ p => [p]
  | .lett _ _ p => [p]
  | .iff _ p q => [p, q]
  | .post _ _ p q => [p, q]
/-! ### turned parts as a tree -/
def plP : Pt → List (List Int × Pt)
  | .give j t => [([], .give j t)]
  | .ask f ts j => [([], .ask f ts j)]
  | .tell x t p => ([], .tell x t p) :: ((plP p).map (fun e => (((0 : Nat) : Int) :: e.1, e.2)) ++ [])
  | .lett x t p => ([], .lett x t p) :: ((plP p).map (fun e => (((0 : Nat) : Int) :: e.1, e.2)) ++ [])
  | .iff t p q => ([], .iff t p q) :: ((plP p).map (fun e => (((0 : Nat) : Int) :: e.1, e.2)) ++ ((plP q).map (fun e => (((1 : Nat) : Int) :: e.1, e.2)) ++ []))
  | .post j x p q => ([], .post j x p q) :: ((plP p).map (fun e => (((0 : Nat) : Int) :: e.1, e.2)) ++ ((plP q).map (fun e => (((1 : Nat) : Int) :: e.1, e.2)) ++ []))
def TrP : Tre Pt where
  kids := restP
  sz := pcnt
  pl := plP
  A := PAt
  tk e h := PAt.tk e h
  szk n := by cases n <;> simp [pcnt, restP, Nat.add_assoc]
  plk n := by cases n <;> rfl
/-! ### turned parts and their terms as a tree -/
abbrev Nd := Pt ⊕ Tm
def plT : Tm → List (List Int × Nd)
  | .mk h n k => ([], .inr (.mk h n k)) :: (List.ofFn fun i : Fin n => (plT (k i)).map (fun e => ((i.val : Int) :: e.1, e.2))).flatten
def plTs : Nat → List Tm → List (List Int × Nd)
  | _, [] => []
  | j, t :: ts => (plT t).map (fun e => ((j : Int) :: e.1, e.2)) ++ plTs (j + 1) ts
def plQ : Pt → List (List Int × Nd)
  | .give j t => ([], .inl (.give j t)) :: ((plT t).map (fun e => (((0 : Nat) : Int) :: e.1, e.2)) ++ [])
  | .ask f ts j => ([], .inl (.ask f ts j)) :: plTs 0 ts
  | .tell x t p => ([], .inl (.tell x t p)) :: ((plT t).map (fun e => (((0 : Nat) : Int) :: e.1, e.2)) ++ ((plQ p).map (fun e => (((1 : Nat) : Int) :: e.1, e.2)) ++ []))
  | .lett x t p => ([], .inl (.lett x t p)) :: ((plT t).map (fun e => (((0 : Nat) : Int) :: e.1, e.2)) ++ ((plQ p).map (fun e => (((1 : Nat) : Int) :: e.1, e.2)) ++ []))
  | .iff t p q => ([], .inl (.iff t p q)) :: ((plT t).map (fun e => (((0 : Nat) : Int) :: e.1, e.2)) ++ ((plQ p).map (fun e => (((1 : Nat) : Int) :: e.1, e.2)) ++ ((plQ q).map (fun e => (((2 : Nat) : Int) :: e.1, e.2)) ++ [])))
  | .post j x p q => ([], .inl (.post j x p q)) :: ((plQ p).map (fun e => (((0 : Nat) : Int) :: e.1, e.2)) ++ ((plQ q).map (fun e => (((1 : Nat) : Int) :: e.1, e.2)) ++ []))
def plN : Nd → List (List Int × Nd)
  | .inl p => plQ p
  | .inr t => plT t
def kidsN : Nd → List Nd
  | .inl p => (termsP p).map .inr ++ (restP p).map .inl
  | .inr (.mk _ _ k) => (List.ofFn k).map .inr
def szN : Nd → Nat
  | .inl p => ncnt p
  | .inr t => cnt t
def NAt (H : Hp) : Nd → Addr → Prop
  | .inl p, a => PAt H p a ∧ kP p
  | .inr t, a => At H t a ∧ simple t = true
theorem plTs_plL : ∀ (ts : List Tm) (j : Nat), plTs j ts = plL plN j (ts.map .inr)
  | [], _ => rfl
  | t :: ts, j => by
    show (plT t).map (fun e => ((j : Int) :: e.1, e.2)) ++ plTs (j + 1) ts = (plT t).map (fun e => ((j : Int) :: e.1, e.2)) ++ plL plN (j + 1) (ts.map .inr)
    rw [plTs_plL ts (j + 1)]
theorem plT_fn : ∀ {n : Nat} {k : Fin n → Tm} {j : Nat}, (List.ofFn fun i : Fin n => (plT (k i)).map (fun e => (((j + i.val : Nat) : Int) :: e.1, e.2))).flatten = plTs j (List.ofFn k)
  | 0, _, _ => rfl
  | n + 1, k, j => by
    rw [List.ofFn_succ, List.ofFn_succ, List.flatten_cons]
    show _ = (plT (k 0)).map (fun e => ((j : Int) :: e.1, e.2)) ++ plTs (j + 1) _
    rw [← plT_fn (k := fun i => k i.succ) (j := j + 1)]
    congr 3
    · funext i
      have e : j + (i.succ).val = j + 1 + i.val := by
        rw [Fin.val_succ]
        omega
      rw [e]
theorem plT_mk {h : Hd} {n : Nat} {k : Fin n → Tm} : plT (.mk h n k) = ([], .inr (.mk h n k)) :: plTs 0 (List.ofFn k) := by
  rw [← plT_fn]
  show _ :: _ = _
  congr 4
  funext i
  rw [Nat.zero_add]
theorem szs_inr (ts : List Tm) : ((ts.map Sum.inr).map szN).sum = cnts ts := by
  rw [List.map_map]
  rfl
def TrN : Tre Nd where
  kids := kidsN
  sz := szN
  pl := plN
  A := NAt
  tk {H H' n a} e h := by
    cases n with
    | inl p => exact ⟨PAt.tk e h.1, h.2⟩
    | inr t => exact ⟨h.1.tk e, h.2⟩
  szk n := by
    cases n with
    | inl p =>
      cases p with
      | ask f ts j =>
        show 1 + cnts ts = 1 + (((ts.map Sum.inr ++ []).map szN)).sum
        rw [List.append_nil, szs_inr]
      | _ => simp [szN, ncnt, kidsN, termsP, restP, Nat.add_assoc]
    | inr t =>
      obtain ⟨h, n, k⟩ := t
      show cnt (.mk h n k) = 1 + (((List.ofFn k).map Sum.inr).map szN).sum
      rw [szs_inr, cnt_mk]
  plk n := by
    cases n with
    | inl p =>
      cases p with
      | ask f ts j =>
        show ([], .inl (.ask f ts j)) :: plTs 0 ts = ([], .inl (.ask f ts j)) :: plL plN 0 (ts.map .inr ++ [])
        rw [List.append_nil, plTs_plL]
      | _ => rfl
    | inr t =>
      obtain ⟨h, n, k⟩ := t
      show plT (.mk h n k) = ([], .inr (.mk h n k)) :: plL plN 0 ((List.ofFn k).map .inr)
      rw [plT_mk, plTs_plL]
theorem cut3 {x y z : V} {r : List V} : cutV (x :: y :: z :: r) (some 3) none = r := cut_from (i := 3) (by decide) (Nat.succ_le_succ len2)
theorem len3 {α : Type} {x y z : α} {r : List α} : 3 ≤ (x :: y :: z :: r).length := Nat.succ_le_succ len2
theorem all2_fn {H : Hp} : ∀ {n : Nat} {k : Fin n → Tm} {ys : Fin n → Addr}, (∀ i, At H (k i) (ys i)) → All2 (RefV H) (List.ofFn k) (Rfs ys)
  | 0, _, _, _ => trivial
  | n + 1, k, ys, h => by
    unfold Rfs
    rw [List.ofFn_succ, List.ofFn_succ]
    exact ⟨⟨ys 0, rfl, h 0⟩, all2_fn (k := fun i => k i.succ) (ys := fun i => ys i.succ) fun i => h i.succ⟩
theorem simple_mk {h : Hd} {n : Nat} {k : Fin n → Tm} (e : simple (.mk h n k) = true) : flatHd h = true ∧ ∀ i, simple (k i) = true := by
  have e' : (flatHd h && (List.ofFn fun i => simple (k i)).all id) = true := e
  rw [Bool.and_eq_true, List.all_eq_true] at e'
  exact ⟨e'.1, fun i => e'.2 _ (List.mem_ofFn.mpr ⟨i, rfl⟩)⟩
theorem all2_mem {α : Type} {R S : α → V → Prop} : ∀ {as : List α} {vs : List V}, All2 R as vs → (∀ a ∈ as, ∀ v, R a v → S a v) → All2 S as vs
  | [], [], _, _ => trivial
  | a :: as, v :: vs, h, e => ⟨e a List.mem_cons_self v h.1, all2_mem h.2 fun b hb => e b (List.mem_cons_of_mem _ hb)⟩
  | [], _ :: _, h, _ => h.elim
  | _ :: _, [], h, _ => h.elim
def heads : List V := [.str "number", .str "name", .str "plus", .str "less"]
theorem flat_in2 (h : Hd) : inV (.str (hs h)) heads = flatHd h := by
  cases h <;> rfl
/-- how a part begins -/
def hsP : Pt → Str
  | .give _ _ => "give" | .ask _ _ _ => "ask" | .tell _ _ _ => "tell" | .lett _ _ _ => "let" | .iff _ _ _ => "if" | .post _ _ _ _ => "post"
theorem PAt.head {H : Hp} {p : Pt} {a : Addr} (h : PAt H p a) : ∃ r, H a = some (.tup (.str (hsP p) :: r)) := by
  cases p with
  | give j t => obtain ⟨b, h1, _⟩ := h; exact ⟨_, h1⟩
  | ask f ts j => obtain ⟨b, vs, h1, _⟩ := h; exact ⟨_, h1⟩
  | tell x t p => obtain ⟨b, c, h1, _⟩ := h; exact ⟨_, h1⟩
  | lett x t p => obtain ⟨b, c, h1, _⟩ := h; exact ⟨_, h1⟩
  | iff t p q => obtain ⟨b, c, d, h1, _⟩ := h; exact ⟨_, h1⟩
  | post j x p q => obtain ⟨c, d, h1, _⟩ := h; exact ⟨_, h1⟩
def handV : Pt → V
  | .give j _ => .str j
  | .ask _ _ j => .str j
  | _ => .non
theorem kP_terms {p : Pt} (h : kP p) : ∀ t ∈ termsP p, simple t = true := by
  intro t ht
  cases p with
  | give j u => rw [List.mem_singleton.mp ht]; exact h.2.si
  | ask f ts j => exact (h.2.2.2 t ht).si
  | tell x u p => rw [List.mem_singleton.mp ht]; exact h.2.1.si
  | lett x u p => rw [List.mem_singleton.mp ht]; exact h.2.1.si
  | iff u p q => rw [List.mem_singleton.mp ht]; exact h.1.si
  | post j x p q => cases ht
theorem kP_rest {p : Pt} (h : kP p) : ∀ u ∈ restP p, kP u := by
  intro u hu
  cases p with
  | give j t => cases hu
  | ask f ts j => cases hu
  | tell x t p => rw [List.mem_singleton.mp hu]; exact h.2.2
  | lett x t p => rw [List.mem_singleton.mp hu]; exact h.2.2
  | iff t p q =>
    rcases List.mem_cons.mp hu with z | z
    · rw [z]; exact h.2.1
    · rw [List.mem_singleton.mp z]; exact h.2.2
  | post j x p q =>
    rcases List.mem_cons.mp hu with z | z
    · rw [z]; exact h.2.2.1
    · rw [List.mem_singleton.mp z]; exact h.2.2.2
section
variable {P : Program} {w : World} {K : PySem.W.Frag} {mg : Str → Option Value} {base : Heap}
/-! ### terms_in -/
def spTermsIn : Sp := fun vs H Q _ => ∃ (a : Addr) (p : Pt), vs = [.ref a] ∧ PAt H p a ∧ ∀ H' q vs, Same H H' → H' q = some (.tup vs) → All2 (RefV H') (termsP p) vs → Q (.ref q) H'
abbrev sterms_in : Stmt := top 6
theorem scterms_in : FnScope ["part"] ["part"] (defScope sterms_in) := ⟨rfl, rfl, rfl, by decide +kernel, rfl, by decide +kernel, by decide +kernel⟩
theorem ok_tin {f : Addr} {fd : FuncData} (F : Fun K "terms_in" "terms_in" sterms_in f fd) : FnOk P w K mg base CX0 1 f fd ["part"] spTermsIn := by
  refine F.ok scterms_in (fun vs H Q E h => ?_) (fun cdv A outer s H vs Q E hr h => ?_)
  · obtain ⟨a, p, rfl, _⟩ := h
    rfl
  obtain ⟨a, p, rfl, hA, q⟩ := h
  refine ⟨_, (pss_cons (ps_if (pt_cmpR op_eq (pe_ix ix_tup (pv 0) pe_int (fun _ _ => rfl)) pe_str (nomark _)) (pss_one (ps_ret (pe_ix ix_tup (pv 0) pe_int (fun _ _ => rfl)))) pss_nil)
    (pss_cons (ps_if (pt_cmpR op_eq (pe_ix ix_tup (pv 0) pe_int (fun _ _ => rfl)) pe_str (nomark _)) (pss_one (ps_ret (pe_slice sl_tupA (pv 0) (po_some pe_int) (po_some pe_int)))) pss_nil)
    (pss_cons (ps_if (pt_cmpR op_eq (pe_ix ix_tup (pv 0) pe_int (fun _ _ => rfl)) pe_str (nomark _)) (pss_one (ps_ret (pe_tup pa_nil))) pss_nil)
    (pss_one (ps_ret (pe_slice sl_tupA (pv 0) (po_some pe_int) (po_some pe_int))))))), ?_⟩
  cases p with
  | give j t =>
    obtain ⟨b, h1, h2⟩ := hA
    refine ⟨_, rfl, a, _, _, _, rfl, rfl, SqT.of h1, at0, rfl, _, rfl, itF rfl ⟨_, rfl, a, _, _, _, rfl, rfl, SqT.of h1, at0, rfl, _, rfl, itF rfl ⟨_, rfl, a, _, _, _, rfl, rfl, SqT.of h1, at0, rfl, _, rfl, itF rfl ?_⟩⟩⟩
    refine ⟨_, rfl, _, rfl, _, rfl, a, _, rfl, SqT.of h1, fun z => absurd z (by show ¬ (HT.sIx 3 0 (some 2) = 0 ∧ HT.sIx 3 3 (some 3) = 3); decide), fun _ p hp => ?_⟩
    have s1 := same_new hp (.tup [V.ref b])
    exact q _ p [.ref b] s1 upd_same ⟨⟨b, rfl, h2.mono s1⟩, trivial⟩
  | ask g ts j =>
    obtain ⟨b, vs, h1, h2, h3⟩ := hA
    exact ⟨_, rfl, a, _, _, _, rfl, rfl, SqT.of h1, at0, rfl, _, rfl, itT rfl ⟨_, rfl, a, _, _, _, rfl, rfl, SqT.of h1, at2, q H b vs (Same.refl H) h2 h3⟩⟩
  | tell x t p =>
    obtain ⟨b, c, h1, h2, h3⟩ := hA
    refine ⟨_, rfl, a, _, _, _, rfl, rfl, SqT.of h1, at0, rfl, _, rfl, itF rfl ⟨_, rfl, a, _, _, _, rfl, rfl, SqT.of h1, at0, rfl, _, rfl, itF rfl ⟨_, rfl, a, _, _, _, rfl, rfl, SqT.of h1, at0, rfl, _, rfl, itF rfl ?_⟩⟩⟩
    refine ⟨_, rfl, _, rfl, _, rfl, a, _, rfl, SqT.of h1, fun z => absurd z (by show ¬ (HT.sIx 4 0 (some 2) = 0 ∧ HT.sIx 4 4 (some 3) = 4); decide), fun _ p hp => ?_⟩
    have s1 := same_new hp (.tup [V.ref b])
    exact q _ p [.ref b] s1 upd_same ⟨⟨b, rfl, h2.mono s1⟩, trivial⟩
  | lett x t p =>
    obtain ⟨b, c, h1, h2, h3⟩ := hA
    refine ⟨_, rfl, a, _, _, _, rfl, rfl, SqT.of h1, at0, rfl, _, rfl, itF rfl ⟨_, rfl, a, _, _, _, rfl, rfl, SqT.of h1, at0, rfl, _, rfl, itF rfl ⟨_, rfl, a, _, _, _, rfl, rfl, SqT.of h1, at0, rfl, _, rfl, itF rfl ?_⟩⟩⟩
    refine ⟨_, rfl, _, rfl, _, rfl, a, _, rfl, SqT.of h1, fun z => absurd z (by show ¬ (HT.sIx 4 0 (some 2) = 0 ∧ HT.sIx 4 4 (some 3) = 4); decide), fun _ p hp => ?_⟩
    have s1 := same_new hp (.tup [V.ref b])
    exact q _ p [.ref b] s1 upd_same ⟨⟨b, rfl, h2.mono s1⟩, trivial⟩
  | iff t p p2 =>
    obtain ⟨b, c, d, h1, h2, h3, h4⟩ := hA
    refine ⟨_, rfl, a, _, _, _, rfl, rfl, SqT.of h1, at0, rfl, _, rfl, itF rfl ⟨_, rfl, a, _, _, _, rfl, rfl, SqT.of h1, at0, rfl, _, rfl, itT rfl ?_⟩⟩
    refine ⟨_, rfl, _, rfl, _, rfl, a, _, rfl, SqT.of h1, fun z => absurd z (by show ¬ (HT.sIx 4 0 (some 1) = 0 ∧ HT.sIx 4 4 (some 2) = 4); decide), fun _ p hp => ?_⟩
    have s1 := same_new hp (.tup [V.ref b])
    exact q _ p [.ref b] s1 upd_same ⟨⟨b, rfl, h2.mono s1⟩, trivial⟩
  | post j x p p2 =>
    obtain ⟨c, d, h1, h2, h3⟩ := hA
    refine ⟨_, rfl, a, _, _, _, rfl, rfl, SqT.of h1, at0, rfl, _, rfl, itF rfl ⟨_, rfl, a, _, _, _, rfl, rfl, SqT.of h1, at0, rfl, _, rfl, itF rfl ⟨_, rfl, a, _, _, _, rfl, rfl, SqT.of h1, at0, rfl, _, rfl, itT rfl ?_⟩⟩⟩
    exact ⟨sz (by show 0 ≤ 100000; decide), fun p hp => q _ p [] (same_new hp _) upd_same trivial⟩
/-! ### rest_of -/
abbrev srest_of : Stmt := top 7
theorem screst_of : FnScope ["part"] ["part"] (defScope srest_of) := ⟨rfl, rfl, rfl, by decide +kernel, rfl, by decide +kernel, by decide +kernel⟩
theorem ok_rest {f : Addr} {fd : FuncData} (F : Fun K "rest_of" "rest_of" srest_of f fd) : FnOk P w K mg base CX0 1 f fd ["part"] (spKids TrP) := by
  refine F.ok screst_of (fun vs H Q E h => ?_) (fun cdv A outer s H vs Q E hr h => ?_)
  · obtain ⟨p, a, rfl, _⟩ := h
    rfl
  obtain ⟨p, a, rfl, hA, q⟩ := h
  refine ⟨_, (pss_cons (ps_if (pt_cmpR op_eq (pe_ix ix_tup (pv 0) pe_int (fun _ _ => rfl)) pe_str (nomark _)) (pss_one (ps_ret (pe_slice sl_tupA (pv 0) (po_some pe_int) po_none))) pss_nil)
    (pss_cons (ps_if (pt_cmpR op_in_seq (pe_ix ix_tup (pv 0) pe_int (fun _ _ => rfl)) (pe_tup (pa_cons pe_str (pa_cons pe_str pa_nil))) rfl) (pss_one (ps_ret (pe_tup pa_nil))) pss_nil)
    (pss_one (ps_ret (pe_slice sl_tupA (pv 0) (po_some pe_int) po_none))))), ?_⟩
  have hA' : PAt H p a := hA
  obtain ⟨r, hd⟩ := hA'.head
  refine ⟨_, rfl, a, _, _, _, rfl, rfl, SqT.of hd, at0, rfl, _, rfl, ?_⟩
  cases p with
  | iff t p1 p2 =>
    obtain ⟨b, c, d, h1, h2, h3, h4⟩ := hA'
    refine itT rfl ⟨_, rfl, _, rfl, a, _, rfl, SqT.of h1, fun z => absurd z (not_whole (by decide) len2), fun _ pa hpa => ?_⟩
    have s1 := same_new hpa (.tup (cutV [.str "if", .ref b, .ref c, .ref d] (some 2) none))
    exact q pa _ [.ref c, .ref d] s1 (by rw [upd_same, cut2]) ⟨⟨c, rfl, PAt.tk (tk_same s1) h3⟩, ⟨d, rfl, PAt.tk (tk_same s1) h4⟩, trivial⟩
  | give j t =>
    refine itF rfl ⟨_, rfl, a, _, _, _, rfl, rfl, SqT.of hd, at0, sz (by show 2 ≤ 100000; decide), fun t1 ht1 => ⟨t1, _, rfl, .inr (SqT.of upd_same), rfl, rfl, _, rfl, itT rfl ⟨sz (by show 0 ≤ 100000; decide), fun pa hpa => ?_⟩⟩⟩
    exact q pa _ [] ((same_new ht1 _).trans (same_new hpa _)) upd_same trivial
  | ask g ts j =>
    refine itF rfl ⟨_, rfl, a, _, _, _, rfl, rfl, SqT.of hd, at0, sz (by show 2 ≤ 100000; decide), fun t1 ht1 => ⟨t1, _, rfl, .inr (SqT.of upd_same), rfl, rfl, _, rfl, itT rfl ⟨sz (by show 0 ≤ 100000; decide), fun pa hpa => ?_⟩⟩⟩
    exact q pa _ [] ((same_new ht1 _).trans (same_new hpa _)) upd_same trivial
  | tell x t p1 =>
    obtain ⟨b, c, h1, h2, h3⟩ := hA'
    refine itF rfl ⟨_, rfl, a, _, _, _, rfl, rfl, SqT.of h1, at0, sz (by show 2 ≤ 100000; decide), fun t1 ht1 => ⟨t1, _, rfl, .inr (SqT.of upd_same), rfl, rfl, _, rfl, itF rfl ?_⟩⟩
    have s0 := same_new ht1 (.tup [.str "give", .str "ask"])
    refine ⟨_, rfl, _, rfl, a, _, rfl, SqT.of (s0 _ _ h1), fun z => absurd z (not_whole (by decide) len3), fun _ pa hpa => ?_⟩
    have s1 := s0.trans (same_new hpa (.tup (cutV [.str "tell", .str x, .ref b, .ref c] (some 3) none)))
    exact q pa _ [.ref c] s1 (by rw [upd_same, cut3]) ⟨⟨c, rfl, PAt.tk (tk_same s1) h3⟩, trivial⟩
  | lett x t p1 =>
    obtain ⟨b, c, h1, h2, h3⟩ := hA'
    refine itF rfl ⟨_, rfl, a, _, _, _, rfl, rfl, SqT.of h1, at0, sz (by show 2 ≤ 100000; decide), fun t1 ht1 => ⟨t1, _, rfl, .inr (SqT.of upd_same), rfl, rfl, _, rfl, itF rfl ?_⟩⟩
    have s0 := same_new ht1 (.tup [.str "give", .str "ask"])
    refine ⟨_, rfl, _, rfl, a, _, rfl, SqT.of (s0 _ _ h1), fun z => absurd z (not_whole (by decide) len3), fun _ pa hpa => ?_⟩
    have s1 := s0.trans (same_new hpa (.tup (cutV [.str "let", .str x, .ref b, .ref c] (some 3) none)))
    exact q pa _ [.ref c] s1 (by rw [upd_same, cut3]) ⟨⟨c, rfl, PAt.tk (tk_same s1) h3⟩, trivial⟩
  | post j x p1 p2 =>
    obtain ⟨c, d, h1, h2, h3⟩ := hA'
    refine itF rfl ⟨_, rfl, a, _, _, _, rfl, rfl, SqT.of h1, at0, sz (by show 2 ≤ 100000; decide), fun t1 ht1 => ⟨t1, _, rfl, .inr (SqT.of upd_same), rfl, rfl, _, rfl, itF rfl ?_⟩⟩
    have s0 := same_new ht1 (.tup [.str "give", .str "ask"])
    refine ⟨_, rfl, _, rfl, a, _, rfl, SqT.of (s0 _ _ h1), fun z => absurd z (not_whole (by decide) len3), fun _ pa hpa => ?_⟩
    have s1 := s0.trans (same_new hpa (.tup (cutV [.str "post", .str j, .str x, .ref c, .ref d] (some 3) none)))
    exact q pa _ [.ref c, .ref d] s1 (by rw [upd_same, cut3]) ⟨⟨c, rfl, PAt.tk (tk_same s1) h2⟩, ⟨d, rfl, PAt.tk (tk_same s1) h3⟩, trivial⟩
/-! ### turned_parts -/
/-! ### hand_of -/
def spHandOf : Sp := fun vs H Q _ => ∃ (a : Addr) (p : Pt), vs = [.ref a] ∧ PAt H p a ∧ Q (handV p) H
abbrev shand_of : Stmt := top 9
theorem schand_of : FnScope ["part"] ["part"] (defScope shand_of) := ⟨rfl, rfl, rfl, by decide +kernel, rfl, by decide +kernel, by decide +kernel⟩
theorem ok_handof {f : Addr} {fd : FuncData} (F : Fun K "hand_of" "hand_of" shand_of f fd) : FnOk P w K mg base CX0 1 f fd ["part"] spHandOf := by
  refine F.ok schand_of (fun vs H Q E h => ?_) (fun cdv A outer s H vs Q E hr h => ?_)
  · obtain ⟨p, a, rfl, _⟩ := h
    rfl
  obtain ⟨a, p, rfl, hA, q⟩ := h
  refine ⟨_, (pss_cons (ps_if (pt_cmpR op_eq (pe_ix ix_tup (pv 0) pe_int (fun _ _ => rfl)) pe_str (nomark _)) (pss_one (ps_ret (pe_ix ix_tup (pv 0) pe_int (fun _ _ => rfl)))) pss_nil)
    (pss_cons (ps_if (pt_cmpR op_eq (pe_ix ix_tup (pv 0) pe_int (fun _ _ => rfl)) pe_str (nomark _)) (pss_one (ps_ret (pe_ix ix_tup (pv 0) pe_int (fun _ _ => rfl)))) pss_nil)
    (pss_one (ps_ret pe_non)))), ?_⟩
  obtain ⟨r, hd⟩ := hA.head
  refine ⟨_, rfl, a, _, _, _, rfl, rfl, SqT.of hd, at0, rfl, _, rfl, ?_⟩
  cases p with
  | give j t =>
    obtain ⟨b, h1, _⟩ := hA
    exact itT rfl ⟨_, rfl, a, _, _, _, rfl, rfl, SqT.of h1, at1, q⟩
  | ask g ts j =>
    obtain ⟨b, us, h1, _⟩ := hA
    exact itF rfl ⟨_, rfl, a, _, _, _, rfl, rfl, SqT.of h1, at0, rfl, _, rfl, itT rfl ⟨_, rfl, a, _, _, _, rfl, rfl, SqT.of h1, at_of (j := 3) rfl rfl, q⟩⟩
  | _ => exact itF rfl ⟨_, rfl, a, _, _, _, rfl, rfl, SqT.of hd, at0, rfl, _, rfl, itF rfl q⟩
end
end KB

namespace KB
open PySem L2 HT

/-! ### idle posts -/
def passed : Pt → Str → Bool
  | .give _ t, x => PyData.eqv (pd t) (.tuple [.str "name", .str x])
  | _, _ => false
def handed (j : Str) (p : Pt) : Bool := (TrP.pre p).any fun u => decide (handV u = .str j)
def idleP : Pt → Bool
  | .post j x p q => passed p x || !handed j q
  | _ => false
def idleN : Nd → Bool
  | .inl p => idleP p
  | .inr _ => false
def PlS (H : Hp) (x : Str × List Int) (v : V) : Prop := ∃ r, v = .ref r ∧ H r = some (.tup (.str x.1 :: x.2.map V.int))
theorem PlS.tk {H H' : Hp} (e : TK H H') {x : Str × List Int} {v : V} (h : PlS H x v) : PlS H' x v := let ⟨r, a, b⟩ := h; ⟨r, a, e _ _ b⟩
def idleOf (e : TEr) : List (Str × List Int) := ((plQ e.2.2).filter (idleN ·.2)).map fun x => (e.1, x.1)
def idleAll (es : List TEr) : List (Str × List Int) := (es.map idleOf).flatten
theorem shaped_nm {x : Str} (h : isV x = true) : SeqAt.shaped (.tuple [.str "name", .str x]) = true := by
  refine shaped_of (lay_cons (lay_lit (by decide +kernel)) (lay_cons (lay_lit (isV_ok h)) rfl)) ?_
  have : (PyData.tuple [.str "name", .str x]).depth ≤ 0 + 1 := depth_tup fun d hd => by
    rcases List.mem_cons.mp hd with z | z
    · rw [z]; exact Nat.le_refl 0
    · rw [List.mem_singleton.mp z]; exact Nat.le_refl 0
  omega
theorem STm.shaped {t : Tm} (h : STm t) : SeqAt.shaped (pd t) = true := shaped_of h.lay (Nat.le_trans h.dep (by decide))
theorem at3 {x y z u : V} {r : List V} : atI (x :: y :: z :: u :: r) 3 = some u := at_of (j := 3) rfl rfl
theorem at4 {x y z u t : V} {r : List V} : atI (x :: y :: z :: u :: t :: r) 4 = some t := at_of (j := 4) rfl rfl
theorem sz_plQ {p : Pt} {m : List Int × Nd} (h : m ∈ plQ p) : szN m.2 ≤ ncnt p := TrN.sz_pl _ (.inl p) (Nat.le_refl _) m h
theorem idleOf_len {e : TEr} (h : ncnt e.2.2 ≤ 1000) : (idleOf e).length ≤ 1000 := by
  unfold idleOf
  rw [List.length_map]
  have h1 := List.length_filter_le (idleN ·.2) (plQ e.2.2)
  have h2 : (plQ e.2.2).length = ncnt e.2.2 := TrN.pl_len _ (.inl e.2.2) (Nat.le_refl _)
  omega
theorem idleAll_len {es : List TEr} (hc : ∀ e ∈ es, ncnt e.2.2 ≤ 1000) : (idleAll es).length ≤ 1000 * es.length := by
  induction es with
  | nil => exact Nat.zero_le _
  | cons e r ih =>
    have h1 := ih fun x hx => hc x (List.mem_cons_of_mem _ hx)
    have h2 := idleOf_len (hc e List.mem_cons_self)
    have h3 : idleAll (e :: r) = idleOf e ++ idleAll r := rfl
    rw [h3, List.length_append, List.length_cons]
    omega
theorem idleAll_take {es : List TEr} {i : Nat} {e : TEr} (h : es[i]? = some e) : idleAll (es.take (i + 1)) = idleAll (es.take i) ++ idleOf e := by
  obtain ⟨hi, he⟩ := List.getElem?_eq_some_iff.mp h
  unfold idleAll
  rw [List.take_succ_eq_append_getElem hi, List.map_append, List.flatten_append, he]
  simp

section
variable {P : Program} {w : World} {K : PySem.W.Frag} {mg : Str → Option Value} {base : Heap}
/-! ### is_handed_to -/
def spHanded : Sp := fun vs H Q _ => ∃ (j : Str) (a : Addr) (p : Pt), vs = [.str j, .ref a] ∧ PAt H p a ∧ pcnt p ≤ 1000 ∧ ∀ H', Same H H' → Q (.bl (handed j p)) H'
abbrev sis_handed_to : Stmt := top 13
theorem scis_handed_to : FnScope ["j", "part", "one"] ["j", "part"] (defScope sis_handed_to) := ⟨rfl, rfl, rfl, by decide +kernel, rfl, by decide +kernel, by decide +kernel⟩
theorem ok_handed (T : Txt K mg) (man : mg "any" = none) {f f1 f2 f3 : Addr} {fd d1 d2 d3 : FuncData} (F : Fun K "is_handed_to" "is_handed_to" sis_handed_to f fd) (Gmet : FnOk P w K mg base CX0 2 f1 d1 ["body", "parts"] (spMet TrP f2)) (Rmet : Ref K mg "met" f1 d1 ["body", "parts"]) (Rrest_of : Ref K mg "rest_of" f2 d2 ["part"])
    (Ghand_of : FnOk P w K mg base CX0 1 f3 d3 ["part"] spHandOf) (Rhand_of : Ref K mg "hand_of" f3 d3 ["part"]) : FnOk P w K mg base CX0 3 f fd ["j", "part"] spHanded := by
  refine F.ok scis_handed_to (fun vs H Q E h => ?_) (fun cdv A outer s H vs Q E hr h => ?_)
  · obtain ⟨j, a, p, rfl, _⟩ := h
    rfl
  obtain ⟨j, a, p, rfl, hA, hc, q⟩ := h
  refine ⟨_, (pss_one (ps_ret (pe_callB (cr_any rfl) (by rfl) man (by decide +kernel) (pa_cons (pe_lc (own := [("one", 2)]) (g := gName 2) (by rfl) scis_handed_to.nd (pi_list (pe_call Gmet (hr.mono (by omega)) rfl Rmet.m Rmet.k Rmet.b .nil pass0 (pa_cons (pv 1) (pa_cons (pe_glob (v := .ref f2) rfl Rrest_of.m rfl) pa_nil)))) (blkOk_by (own := [("one", 2)]) (N := ["j", "part", "one"]) (sc := defScope sis_handed_to) (by decide +kernel)) (fun _ _ _ _ _ => (pg_name (i := 2) scis_handed_to.nd rfl (Or.inl rfl))) (fun _ _ _ _ _ => pts_nil) (fun _ _ _ _ _ => (pe_cmpR op_eq (pe_call Ghand_of (hr.mono (by omega)) rfl Rhand_of.m Rhand_of.k Rhand_of.b .nil pass0 (pa_cons (pv 2) pa_nil)) (pv 0) (nomark _)))) pa_nil)))), ?_⟩
  refine ⟨_, rfl, p, a, rfl, hA, hc, fun pl H1 its hpl s1 h1 k1 => ?_⟩
  have hlen := k1.len
  have hpre : (TrP.pre p).length ≤ 1000 := by
    unfold Tre.pre
    rw [List.length_map, TrP.pl_len _ p (Nat.le_refl _)]
    exact hc
  refine ⟨pl, rfl, ⟨_, SqL.of h1⟩, fun D hD => lc_list (K := K) (a := pl) (xs := its) (fun i H' => Same H1 H' ∧ H' D = some (.lst ((((TrP.pre p).take i).map fun u => decide (handV u = .str j)).map V.bl))) ⟨same_new hD _, upd_same⟩ ?_ ?_ ?_⟩
  · rintro i H' _ ⟨s3, _⟩
    exact SqL.of (s3 _ _ h1)
  · rintro i x H3 hx ⟨s3, h3⟩
    obtain ⟨u, hu, b, rfl, hb⟩ := k1.get hx
    have hz := (List.getElem?_eq_some_iff.mp hx).1
    refine ⟨rfl, ?_⟩
    dsimp only [tYes]
    refine iteT ?_
    refine ⟨_, rfl, b, u, rfl, PAt.tk (tk_same s3) hb, _, rfl, by cases u <;> rfl, _, h3, Nat.lt_of_le_of_lt (m := 1000) ?_ (by decide), same_mut s3 hD, ?_⟩
    · rw [List.length_map, List.length_map, List.length_take]
      omega
    · obtain ⟨hj, hj2⟩ := List.getElem?_eq_some_iff.mp hu
      rw [upd_same, List.take_succ_eq_append_getElem hj, hj2, List.map_append, List.map_append]
      rfl
  · rintro H3 ⟨s3, h3⟩
    have e : (TrP.pre p).take its.length = TrP.pre p := by rw [hlen, List.take_length]
    rw [e] at h3
    refine ⟨D, (TrP.pre p).map fun u => decide (handV u = .str j), rfl, SqL.of h3, ?_⟩
    have e2 : ((TrP.pre p).map fun u => decide (handV u = .str j)).any id = handed j p := by
      rw [List.any_map]
      rfl
    rw [e2]
    exact q _ (s1.trans s3)
/-! ### is_passed_on -/
def spPassed : Sp := fun vs H Q _ => ∃ (j x : Str) (p p2 : Pt) (a : Addr), vs = [.ref a] ∧ PAt H (.post j x p p2) a ∧ kP (.post j x p p2) ∧ ∀ H', Same H H' → Q (.bl (passed p x)) H'
abbrev sis_passed_on : Stmt := top 12
theorem scis_passed_on : FnScope ["post", "then"] ["post"] (defScope sis_passed_on) := ⟨rfl, rfl, rfl, by decide +kernel, rfl, by decide +kernel, by decide +kernel⟩
theorem ok_passed {f : Addr} {fd : FuncData} (F : Fun K "is_passed_on" "is_passed_on" sis_passed_on f fd) : FnOk P w K mg base CX0 1 f fd ["post"] spPassed := by
  refine F.ok scis_passed_on (fun vs H Q E h => ?_) (fun cdv A outer s H vs Q E hr h => ?_)
  · obtain ⟨j, x, p, p2, a, rfl, _⟩ := h
    rfl
  obtain ⟨j, x, p, p2, a, rfl, ⟨c, d, h1, h2, h3⟩, hk, q⟩ := h
  refine ⟨_, (pss_cons (ps_set (i := 1) scis_passed_on.nd rfl (Or.inl rfl) (pe_ix ix_tup (pv 0) pe_int (fun _ _ => rfl)))
    (pss_one (ps_ret (pe_and (pe_cmpR op_eq (pe_ix ix_tup (pv 1) pe_int (fun _ _ => rfl)) pe_str (nomark _)) (pe_one (pe_cmpR (op_eqD hr.units) (pe_ix ix_tup (pv 1) pe_int (fun _ _ => rfl)) (pe_tup (pa_cons pe_str (pa_cons (pe_ix ix_tup (pv 0) pe_int (fun _ _ => rfl)) pa_nil))) (nomark _))))))), ?_⟩
  refine ⟨_, rfl, a, _, _, _, rfl, rfl, SqT.of h1, at3, ?_⟩
  obtain ⟨r, hd⟩ := h2.head
  refine ⟨_, rfl, c, _, _, _, rfl, rfl, SqT.of hd, at0, rfl, _, rfl, ?_⟩
  cases p with
  | give k t =>
    obtain ⟨b, g1, g2⟩ := h2
    refine itT rfl ⟨_, rfl, c, _, _, _, rfl, rfl, SqT.of g1, at2, _, rfl, a, _, _, _, rfl, rfl, SqT.of h1, at2, sz (by show 2 ≤ 100000; decide), fun t1 ht1 => ?_⟩
    have s1 := same_new ht1 (.tup [.str "name", .str x])
    exact ⟨pd t, .tuple [.str "name", .str x], dp_at (g2.mono s1), .tup (SqT.of upd_same) (.cons (.str _) (.cons (.str _) .nil)), hk.2.2.1.2.shaped, shaped_nm hk.2.1, q _ s1⟩
  | _ => exact itF rfl (q _ (Same.refl _))
/-! ### is_idle -/
def spIdle : Sp := fun vs H Q _ => ∃ (n : Nd) (a : Addr), vs = [.ref a] ∧ NAt H n a ∧ szN n ≤ 1000 ∧ ∀ H', Same H H' → Q (.bl (idleN n)) H'
abbrev sis_idle : Stmt := top 11
theorem scis_idle : FnScope ["part"] ["part"] (defScope sis_idle) := ⟨rfl, rfl, rfl, by decide +kernel, rfl, by decide +kernel, by decide +kernel⟩
theorem pcnt_le_ncnt : ∀ p : Pt, pcnt p ≤ ncnt p
  | .give j t => by show 1 ≤ 1 + cnt t; omega
  | .ask f ts j => by show 1 ≤ 1 + cnts ts; omega
  | .tell x t p => by have := pcnt_le_ncnt p; show 1 + pcnt p ≤ 1 + cnt t + ncnt p; omega
  | .lett x t p => by have := pcnt_le_ncnt p; show 1 + pcnt p ≤ 1 + cnt t + ncnt p; omega
  | .iff t p q => by have := pcnt_le_ncnt p; have := pcnt_le_ncnt q; show 1 + pcnt p + pcnt q ≤ 1 + cnt t + ncnt p + ncnt q; omega
  | .post j x p q => by have := pcnt_le_ncnt p; have := pcnt_le_ncnt q; show 1 + pcnt p + pcnt q ≤ 1 + ncnt p + ncnt q; omega
theorem ok_idle {f f1 f2 : Addr} {fd d1 d2 : FuncData} (F : Fun K "is_idle" "is_idle" sis_idle f fd) (Gis_passed_on : FnOk P w K mg base CX0 1 f1 d1 ["post"] spPassed) (Ris_passed_on : Ref K mg "is_passed_on" f1 d1 ["post"])
    (Gis_handed_to : FnOk P w K mg base CX0 3 f2 d2 ["j", "part"] spHanded) (Ris_handed_to : Ref K mg "is_handed_to" f2 d2 ["j", "part"]) : FnOk P w K mg base CX0 4 f fd ["part"] spIdle := by
  refine F.ok scis_idle (fun vs H Q E h => ?_) (fun cdv A outer s H vs Q E hr h => ?_)
  · obtain ⟨n, a, rfl, _⟩ := h
    rfl
  obtain ⟨n, a, rfl, hA, hc, q⟩ := h
  refine ⟨_, (pss_one (ps_ret (pe_and (pe_cmpR op_eq (pe_ix ix_tup (pv 0) pe_int (fun _ _ => rfl)) pe_str (nomark _)) (pe_one (pe_or (pe_call Gis_passed_on (hr.mono (by omega)) rfl Ris_passed_on.m Ris_passed_on.k Ris_passed_on.b .nil pass0 (pa_cons (pv 0) pa_nil)) (pe_one (pe_not (pe_call Gis_handed_to (hr.mono (by omega)) rfl Ris_handed_to.m Ris_handed_to.k Ris_handed_to.b .nil pass0 (pa_cons (pe_ix ix_tup (pv 0) pe_int (fun _ _ => rfl)) (pa_cons (pe_ix ix_tup (pv 0) pe_int (fun _ _ => rfl)) pa_nil)))))))))), ?_⟩
  cases n with
  | inr t =>
    obtain ⟨hT, hsi⟩ := hA
    obtain ⟨h, n, k⟩ := t
    obtain ⟨ys, l, _⟩ := hT
    obtain ⟨r, hd⟩ := l.head
    refine ⟨_, rfl, a, _, _, _, rfl, rfl, SqT.of hd, at0, rfl, _, rfl, itF ?_ (q _ (Same.refl _))⟩
    have e1 := (simple_mk hsi).1
    cases h <;> first | rfl | cases e1
  | inl p =>
    obtain ⟨hP, hk⟩ : PAt H p a ∧ kP p := hA
    obtain ⟨r, hd⟩ := hP.head
    refine ⟨_, rfl, a, _, _, _, rfl, rfl, SqT.of hd, at0, rfl, _, rfl, ?_⟩
    cases p with
    | post j x p p2 =>
      refine itT rfl ⟨_, rfl, j, x, p, p2, a, rfl, hP, hk, fun H1 s1 => ⟨_, rfl, ?_⟩⟩
      obtain ⟨c, d, h1, h2, h3⟩ := PAt.tk (tk_same s1) hP
      cases e : passed p x with
      | true =>
        refine itT rfl ?_
        have := q H1 s1
        show Q (.bl true) H1
        have e2 : idleN (.inl (.post j x p p2)) = true := by
          show (passed p x || !handed j p2) = true
          rw [e]
          rfl
        rw [e2] at this
        exact this
      | false =>
        refine itF rfl ⟨_, rfl, a, _, _, _, rfl, rfl, SqT.of h1, at1, _, rfl, a, _, _, _, rfl, rfl, SqT.of h1, at4, j, d, p2, rfl, h3, ?_, fun H2 s2 => ⟨_, rfl, ?_⟩⟩
        · have z1 : pcnt p2 ≤ ncnt p2 := pcnt_le_ncnt p2
          have z2 : 1 + ncnt p + ncnt p2 ≤ 1000 := hc
          omega
        · have := q H2 (s1.trans s2)
          have e2 : idleN (.inl (.post j x p p2)) = !handed j p2 := by
            show (passed p x || !handed j p2) = _
            rw [e]
            rfl
          rw [e2] at this
          exact this
    | _ => exact itF rfl (q _ (Same.refl _))
/-! ### idle_places -/
structure TkE (e : TEr) : Prop where
  k : kP e.2.2
  n : ncnt e.2.2 ≤ 1000
  w : isW e.1 = true
def spIdles : Sp := fun vs H Q _ => ∃ (p : Addr) (es : List TEr) (us : List V), vs = [.ref p] ∧ TBkAt H es us p ∧ es.length ≤ 6 ∧ (∀ e ∈ es, TkE e) ∧
  ∀ p' H' its, H p' = none → Same H H' → H' p' = some (.lst its) → All2 (PlS H') (idleAll es) its → Q (.ref p') H'
end
end KB

namespace KB
open PySem L2 HT

/-! ### the law's own walks -/
def lkids : Pt → List (Int × Pt)
  | .give _ _ => []
  | .ask _ _ _ => []
  | .tell _ _ p => [(1, p)]
  | .lett _ _ p => [(1, p)]
  | .iff _ p q => [(1, p), (2, q)]
  | .post _ _ p q => [(0, p), (1, q)]
def allP : Pt → List (List Int × Pt)
  | .give j t => [([], .give j t)]
  | .ask f ts j => [([], .ask f ts j)]
  | .tell x t p => ([], .tell x t p) :: ((allP p).map (fun e => ((1 : Int) :: e.1, e.2)) ++ [])
  | .lett x t p => ([], .lett x t p) :: ((allP p).map (fun e => ((1 : Int) :: e.1, e.2)) ++ [])
  | .iff t p q => ([], .iff t p q) :: ((allP p).map (fun e => ((1 : Int) :: e.1, e.2)) ++ ((allP q).map (fun e => ((2 : Int) :: e.1, e.2)) ++ []))
  | .post j x p q => ([], .post j x p q) :: ((allP p).map (fun e => ((0 : Int) :: e.1, e.2)) ++ ((allP q).map (fun e => ((1 : Int) :: e.1, e.2)) ++ []))
def allK (ks : List (Int × Pt)) : List (List Int × Pt) := (ks.map fun k => (allP k.2).map fun e => (k.1 :: e.1, e.2)).flatten
theorem allP_mk (p : Pt) : allP p = ([], p) :: allK (lkids p) := by cases p <;> rfl
def endsP : Pt → List Str
  | .give j _ => [j]
  | .ask _ _ j => [j]
  | .tell _ _ p => endsP p ++ []
  | .lett _ _ p => endsP p ++ []
  | .iff _ p q => endsP p ++ (endsP q ++ [])
  | .post _ _ p q => endsP p ++ (endsP q ++ [])
def endsK (ks : List (Int × Pt)) : List Str := (ks.map fun k => endsP k.2).flatten
def idleL : Pt → Bool
  | .post j x p q => passed p x || !inV (.str j) ((endsP q).map V.str)
  | _ => false
theorem pc_pos : ∀ p : Pt, 1 ≤ pcnt p := fun p => TrP.pos p
theorem allP_len : ∀ p : Pt, (allP p).length = pcnt p
  | .give j t => rfl
  | .ask f ts j => rfl
  | .tell x t p => by simp [allP, pcnt, allP_len p]; omega
  | .lett x t p => by simp [allP, pcnt, allP_len p]; omega
  | .iff t p q => by simp [allP, pcnt, allP_len p, allP_len q]; omega
  | .post j x p q => by simp [allP, pcnt, allP_len p, allP_len q]; omega
theorem endsP_len : ∀ p : Pt, (endsP p).length ≤ pcnt p
  | .give j t => Nat.le_refl 1
  | .ask f ts j => Nat.le_refl 1
  | .tell x t p => by have := endsP_len p; simp [endsP, pcnt]; omega
  | .lett x t p => by have := endsP_len p; simp [endsP, pcnt]; omega
  | .iff t p q => by have := endsP_len p; have := endsP_len q; simp [endsP, pcnt]; omega
  | .post j x p q => by have := endsP_len p; have := endsP_len q; simp [endsP, pcnt]; omega
theorem lk_len (p : Pt) : (lkids p).length ≤ 2 := by cases p <;> simp [lkids]
theorem lk_cnt {p : Pt} {k : Int × Pt} (h : k ∈ lkids p) : pcnt k.2 < pcnt p := by
  cases p with
  | give j t => cases h
  | ask f ts j => cases h
  | tell x t p => rw [List.mem_singleton.mp h]; show pcnt p < 1 + pcnt p; omega
  | lett x t p => rw [List.mem_singleton.mp h]; show pcnt p < 1 + pcnt p; omega
  | iff t p q =>
    rcases List.mem_cons.mp h with z | z
    · rw [z]; show pcnt p < 1 + pcnt p + pcnt q; omega
    · rw [List.mem_singleton.mp z]; show pcnt q < 1 + pcnt p + pcnt q; omega
  | post j x p q =>
    rcases List.mem_cons.mp h with z | z
    · rw [z]; show pcnt p < 1 + pcnt p + pcnt q; omega
    · rw [List.mem_singleton.mp z]; show pcnt q < 1 + pcnt p + pcnt q; omega
def kcnt (ks : List (Int × Pt)) : Nat := (ks.map fun k => pcnt k.2).sum
theorem kcnt_lk (p : Pt) : kcnt (lkids p) < pcnt p := by
  cases p <;> simp [kcnt, lkids, pcnt] <;> omega
theorem kcnt_take (ks : List (Int × Pt)) (i : Nat) : kcnt (ks.take i) ≤ kcnt ks := by
  have e : kcnt ks = kcnt (ks.take i) + kcnt (ks.drop i) := by
    unfold kcnt
    rw [← List.sum_append, ← List.map_append, List.take_append_drop]
  omega
theorem allK_len : ∀ ks : List (Int × Pt), (allK ks).length = kcnt ks
  | [] => rfl
  | k :: r => by
    show ((allP k.2).map (fun e => (k.1 :: e.1, e.2)) ++ allK r).length = pcnt k.2 + kcnt r
    rw [List.length_append, List.length_map, allP_len, allK_len r]
theorem endsK_len : ∀ ks : List (Int × Pt), (endsK ks).length ≤ kcnt ks
  | [] => Nat.le_refl _
  | k :: r => by
    have := endsK_len r
    have := endsP_len k.2
    show (endsP k.2 ++ endsK r).length ≤ pcnt k.2 + kcnt r
    rw [List.length_append]
    omega
theorem allK_take {ks : List (Int × Pt)} {i : Nat} {k : Int × Pt} (h : ks[i]? = some k) : allK (ks.take (i + 1)) = allK (ks.take i) ++ (allP k.2).map fun e => (k.1 :: e.1, e.2) := by
  obtain ⟨hi, he⟩ := List.getElem?_eq_some_iff.mp h
  unfold allK
  rw [List.take_succ_eq_append_getElem hi, List.map_append, List.flatten_append, he]
  simp
theorem endsK_take {ks : List (Int × Pt)} {i : Nat} {k : Int × Pt} (h : ks[i]? = some k) : endsK (ks.take (i + 1)) = endsK (ks.take i) ++ endsP k.2 := by
  obtain ⟨hi, he⟩ := List.getElem?_eq_some_iff.mp h
  unfold endsK
  rw [List.take_succ_eq_append_getElem hi, List.map_append, List.flatten_append, he]
  simp
/-- a part within, by its number -/
def KidV (H : Hp) (k : Int × Pt) (v : V) : Prop := ∃ q b, v = .ref q ∧ H q = some (.tup [.int k.1, .ref b]) ∧ PAt H k.2 b
theorem KidV.tk {H H' : Hp} (e : TK H H') {k : Int × Pt} {v : V} (h : KidV H k v) : KidV H' k v := let ⟨q, b, e1, h1, h2⟩ := h; ⟨q, b, e1, e _ _ h1, h2.tk e⟩
theorem EntV.deep {H : Hp} {pre : List V} {i : Int} {e : List Int × Pt} {v : V} (h : EntV PAt H (pre ++ [.int i]) e v) : EntV PAt H pre (i :: e.1, e.2) v := by
  obtain ⟨q, r, b, e1, h1, h2, h3⟩ := h
  refine ⟨q, r, b, e1, h1, ?_, h3⟩
  rw [h2, List.append_assoc]
  rfl
theorem EntV.tkP {H H' : Hp} (e : TK H H') {pre : List V} {kt : List Int × Pt} {v : V} (h : EntV PAt H pre kt v) : EntV PAt H' pre kt v := EntV.tk (fun t z => PAt.tk t z) e h
theorem flat_strs : ∀ xs : List Str, (xs.map V.str).all flatV = true
  | [] => rfl
  | x :: r => by
    rw [List.map_cons, List.all_cons, flat_strs r]
    rfl

theorem hsP_give {p : Pt} (h : hsP p = "give") : ∃ j t, p = .give j t := by
  cases p <;> dsimp only [hsP] at h <;> first | exact ⟨_, _, rfl⟩ | exact absurd h (by decide)
theorem hsP_ask {p : Pt} (h : hsP p = "ask") : ∃ f ts j, p = .ask f ts j := by
  cases p <;> dsimp only [hsP] at h <;> first | exact ⟨_, _, _, rfl⟩ | exact absurd h (by decide)
section
variable {P : Program} {w : World} {K : PySem.W.Frag} {mg : Str → Option Value} {base : Heap}
/-! ### _law_kids -/
def spLKids : Sp := fun vs H Q _ => ∃ (a : Addr) (p : Pt), vs = [.ref a] ∧ PAt H p a ∧ ∀ r H' us, H r = none → Same H H' → H' r = some (.lst us) → All2 (KidV H') (lkids p) us → Q (.ref r) H'
/-! ### _law_all -/
def spLAll : Nat → Sp
  | 0 => fun _ _ _ _ => False
  | n + 1 => fun vs H Q _ => ∃ (a pl : Addr) (p : Pt) (pre : List V), vs = [.ref a, .ref pl] ∧ PAt H p a ∧ pcnt p ≤ n + 1 ∧ pcnt p ≤ 1000 ∧ H pl = some (.tup pre) ∧ pre.length + n ≤ 2000 ∧ ∀ r H' us, H r = none → Same H H' → H' r = some (.lst us) → All2 (EntV PAt H' pre) (allP p) us → Q (.ref r) H'
/-! ### _law_ends -/
def spLEnds : Nat → Sp
  | 0 => fun _ _ _ _ => False
  | n + 1 => fun vs H Q _ => ∃ (a : Addr) (p : Pt), vs = [.ref a] ∧ PAt H p a ∧ pcnt p ≤ n + 1 ∧ pcnt p ≤ 1000 ∧ ∀ r H', H r = none → Same H H' → H' r = some (.lst ((endsP p).map V.str)) → Q (.ref r) H'
/-! ### _law_is_idle -/
def spLIdle : Sp := fun vs H Q _ => ∃ (a : Addr) (p : Pt), vs = [.ref a] ∧ PAt H p a ∧ kP p ∧ pcnt p ≤ 30 ∧ ∀ H', Same H H' → Q (.bl (idleL p)) H'
/-! ### _law_all_of -/
def EnS (H : Hp) (x : Str × List Int × Pt) (v : V) : Prop := EntV PAt H [.str x.1] x.2 v
def allOf (es : List TEr) : List (Str × List Int × Pt) := (es.map fun e => (allP e.2.2).map fun x => (e.1, x)).flatten
theorem allOf_take {es : List TEr} {i : Nat} {e : TEr} (h : es[i]? = some e) : allOf (es.take (i + 1)) = allOf (es.take i) ++ (allP e.2.2).map fun x => (e.1, x) := by
  obtain ⟨hi, he⟩ := List.getElem?_eq_some_iff.mp h
  unfold allOf
  rw [List.take_succ_eq_append_getElem hi, List.map_append, List.flatten_append, he]
  simp
theorem allOf_len {es : List TEr} (hc : ∀ e ∈ es, pcnt e.2.2 ≤ 30) : (allOf es).length ≤ 30 * es.length := by
  induction es with
  | nil => exact Nat.zero_le _
  | cons e r ih =>
    have h1 := ih fun x hx => hc x (List.mem_cons_of_mem _ hx)
    have h2 := hc e List.mem_cons_self
    have h3 : allOf (e :: r) = (allP e.2.2).map (fun x => (e.1, x)) ++ allOf r := rfl
    rw [h3, List.length_append, List.length_cons, List.length_map, allP_len]
    omega
def spLAllOf : Sp := fun vs H Q _ => ∃ (p : Addr) (es : List TEr) (us : List V), vs = [.ref p] ∧ TBkAt H es us p ∧ es.length ≤ 6 ∧ (∀ e ∈ es, pcnt e.2.2 ≤ 30) ∧
  ∀ r H' its, H r = none → Same H H' → H' r = some (.lst its) → All2 (EnS H') (allOf es) its → Q (.ref r) H'
end
end KB

namespace KB
open PySem L2 HT

theorem shaped_ints (ks : List Int) : SeqAt.shaped (.tuple (ks.map PyData.int)) = true := by
  refine shaped_of (layAll fun d hd => ?_) ?_
  · obtain ⟨k, _, rfl⟩ := List.mem_map.mp hd
    rfl
  · have : (PyData.tuple (ks.map PyData.int)).depth ≤ 0 + 1 := depth_tup fun d hd => by
      obtain ⟨k, _, rfl⟩ := List.mem_map.mp hd
      exact Nat.le_refl 0
    omega
theorem shaped_nil : SeqAt.shaped (.tuple []) = true := rfl
theorem eqv_nilI (ks : List Int) : PyData.eqv (.tuple (ks.map PyData.int)) (.tuple []) = ks.isEmpty := by cases ks <;> rfl
theorem allP_in {p u : Pt} {k : Int} {ks : List Int} (h : (k :: ks, u) ∈ allP p) : ∃ p', (k, p') ∈ lkids p ∧ (ks, u) ∈ allP p' := by
  rw [allP_mk] at h
  rcases List.mem_cons.mp h with z | z
  · cases z
  · obtain ⟨l, hl, hm⟩ := List.mem_flatten.mp z
    obtain ⟨kid, hk, rfl⟩ := List.mem_map.mp hl
    obtain ⟨e, he, e2⟩ := List.mem_map.mp hm
    cases e2
    exact ⟨kid.2, hk, he⟩
theorem lk_kP {p : Pt} (h : kP p) {k : Int × Pt} (m : k ∈ lkids p) : kP k.2 := by
  cases p with
  | give j t => cases m
  | ask f ts j => cases m
  | tell x t p => rw [List.mem_singleton.mp m]; exact h.2.2
  | lett x t p => rw [List.mem_singleton.mp m]; exact h.2.2
  | iff t p q =>
    rcases List.mem_cons.mp m with z | z
    · rw [z]; exact h.2.1
    · rw [List.mem_singleton.mp z]; exact h.2.2
  | post j x p q =>
    rcases List.mem_cons.mp m with z | z
    · rw [z]; exact h.2.2.1
    · rw [List.mem_singleton.mp z]; exact h.2.2.2
theorem kid_one {K : PySem.W.Frag} {H : Hp} {n : Int} {p : Pt} {us : List V} (h : All2 (KidV H) [(n, p)] us) : ∃ ps kvs b, us = ps.map V.ref ∧ PySem.Paired (fun p kv => SqT K H p [kV kv.1, kv.2]) ps kvs ∧ valV (mergeK [] kvs) (Sum.inl n) = some (.ref b) ∧ PAt H p b := by
  match us, h with
  | [_], ⟨⟨q, b, rfl, h1, h2⟩, _⟩ => exact ⟨[q], [(Sum.inl n, .ref b)], b, rfl, .cons (SqT.of h1) .nil, by show valV [((Sum.inl n : Key), V.ref b)] _ = _; exact valV_pos rfl, h2⟩
theorem kid_two {K : PySem.W.Frag} {H : Hp} {n m : Int} (hn : n ≠ m) {p p2 : Pt} {us : List V} (h : All2 (KidV H) [(n, p), (m, p2)] us) : ∃ ps kvs b c, us = ps.map V.ref ∧ PySem.Paired (fun p kv => SqT K H p [kV kv.1, kv.2]) ps kvs ∧ valV (mergeK [] kvs) (Sum.inl n) = some (.ref b) ∧ valV (mergeK [] kvs) (Sum.inl m) = some (.ref c) ∧ PAt H p b ∧ PAt H p2 c := by
  match us, h with
  | [_, _], ⟨⟨q, b, rfl, h1, h2⟩, ⟨q2, c, rfl, h3, h4⟩, _⟩ =>
    have e : mergeK [] [((Sum.inl n : Key), V.ref b), (Sum.inl m, .ref c)] = putK [((Sum.inl n : Key), V.ref b)] (Sum.inl m) (.ref c) := rfl
    refine ⟨[q, q2], [(Sum.inl n, .ref b), (Sum.inl m, .ref c)], b, c, rfl, .cons (SqT.of h1) (.cons (SqT.of h3) .nil), ?_, ?_, h2, h4⟩
    · rw [e, valV_put, if_neg (fun z => hn (Sum.inl.inj z))]
      exact valV_pos rfl
    · rw [e, valV_put, if_pos rfl]
theorem kid_get {K : PySem.W.Frag} {H : Hp} {p u : Pt} {k : Int} {us : List V} (h : All2 (KidV H) (lkids p) us) (m : (k, u) ∈ lkids p) : ∃ ps kvs b, us = ps.map V.ref ∧ PySem.Paired (fun p kv => SqT K H p [kV kv.1, kv.2]) ps kvs ∧ valV (mergeK [] kvs) (Sum.inl k) = some (.ref b) ∧ PAt H u b := by
  cases p with
  | give j t => cases m
  | ask f ts j => cases m
  | tell x t p => cases List.mem_singleton.mp m; exact kid_one h
  | lett x t p => cases List.mem_singleton.mp m; exact kid_one h
  | iff t p q =>
    obtain ⟨ps, kvs, b, c, e1, e2, e3, e4, e5, e6⟩ := kid_two (K := K) (by decide) h
    rcases List.mem_cons.mp m with z | z
    · cases z; exact ⟨ps, kvs, b, e1, e2, e3, e5⟩
    · cases List.mem_singleton.mp z; exact ⟨ps, kvs, c, e1, e2, e4, e6⟩
  | post j x p q =>
    obtain ⟨ps, kvs, b, c, e1, e2, e3, e4, e5, e6⟩ := kid_two (K := K) (by decide) h
    rcases List.mem_cons.mp m with z | z
    · cases z; exact ⟨ps, kvs, b, e1, e2, e3, e5⟩
    · cases List.mem_singleton.mp z; exact ⟨ps, kvs, c, e1, e2, e4, e6⟩
theorem hsP_post {p : Pt} (h : hsP p = "post") : ∃ j x q r, p = .post j x q r := by
  cases p <;> dsimp only [hsP] at h <;> first | exact ⟨_, _, _, _, rfl⟩ | exact absurd h (by decide)
/-- the hand-ons around at a place -/
def stH : Pt → Int → List Str → List Str
  | .post j _ _ _, k, hs => if k = 1 then hs ++ [j] else hs
  | _, _, hs => hs
def hsA : Pt → List Int → List Str → List Str
  | .tell _ _ p, _ :: ks, hs => hsA p ks hs
  | .lett _ _ p, _ :: ks, hs => hsA p ks hs
  | .iff _ p q, k :: ks, hs => if k = 1 then hsA p ks hs else hsA q ks hs
  | .post j _ p q, k :: ks, hs => if k = 1 then hsA q ks (hs ++ [j]) else hsA p ks hs
  | _, _, hs => hs
theorem hsA_nil (p : Pt) (hs : List Str) : hsA p [] hs = hs := by cases p <;> rfl
theorem hsA_kid {p p' : Pt} {k : Int} {ks : List Int} {hs : List Str} (m : (k, p') ∈ lkids p) : hsA p (k :: ks) hs = hsA p' ks (stH p k hs) := by
  cases p with
  | give j t => cases m
  | ask f ts j => cases m
  | tell x t p => cases List.mem_singleton.mp m; rfl
  | lett x t p => cases List.mem_singleton.mp m; rfl
  | iff t p q =>
    rcases List.mem_cons.mp m with z | z
    · cases z; rfl
    · cases List.mem_singleton.mp z; rfl
  | post j x p q =>
    rcases List.mem_cons.mp m with z | z
    · cases z; rfl
    · cases List.mem_singleton.mp z; rfl
/-- hand-ons' words -/
def Hds (H : Hp) (a : Addr) (hs : List Str) : Prop := H a = some (.lst (hs.map V.str)) ∧ ∀ j ∈ hs, PySem.PyData.strOk j = true
theorem Hds.mono {H H' : Hp} (e : Same H H') {a : Addr} {hs : List Str} (h : Hds H a hs) : Hds H' a hs := ⟨e _ _ h.1, h.2⟩
theorem slA_of {K : PySem.W.Frag} {H : Hp} {a : Addr} {xs : List V} {lo hi : Option Int} {Q : VK} (ha : H a = some (.tup xs))
    (q : ∀ p H', Same H H' → H' p = some (.tup (cutV xs lo hi)) → Q (.ref p) H') : rSlA K (.ref a) lo hi H Q := by
  refine ⟨a, xs, rfl, SqT.of ha, fun z => q a H (Same.refl H) ?_, fun _ p hp => q p _ (same_new hp _) upd_same⟩
  have e : cutV xs lo hi = xs := by
    unfold cutV
    rw [z.1, z.2, List.drop_zero, Nat.sub_zero, List.take_length]
  rw [e]
  exact ha

section
variable {P : Program} {w : World} {K : PySem.W.Frag} {mg : Str → Option Value} {base : Heap}
/-! ### _law_around -/
def spLAr : Nat → Sp
  | 0 => fun _ _ _ _ => False
  | n + 1 => fun vs H Q _ => ∃ (a nb hl : Addr) (p u : Pt) (ks : List Int) (hs : List Str), vs = [.ref a, .ref nb, .ref hl] ∧ PAt H p a ∧ kP p ∧ (ks, u) ∈ allP p ∧ ks.length ≤ n ∧ H nb = some (.tup (ks.map V.int)) ∧ Hds H hl hs ∧ hs ≠ [] ∧ hs.length + n ≤ 200 ∧
    ∀ r H' b hl' hs', Same H H' → H' r = some (.tup [.ref b, .ref hl']) → Hds H' hl' hs' → hs' = hsA p ks hs → hs' ≠ [] → hs'.length ≤ 200 → Q (.ref r) H'
end
end KB

namespace KB
open PySem L2 HT

/-! ### a part with another one put in -/
def putP (o : Pt) : Pt → List Int → Pt
  | _, [] => o
  | .give j t, _ :: _ => .give j t
  | .ask f ts j, _ :: _ => .ask f ts j
  | .tell x t p, k :: ks => .tell x t (if (1 : Int) = k then putP o p ks else p)
  | .lett x t p, k :: ks => .lett x t (if (1 : Int) = k then putP o p ks else p)
  | .iff t p q, k :: ks => .iff t (if (1 : Int) = k then putP o p ks else p) (if (2 : Int) = k then putP o q ks else q)
  | .post j x p q, k :: ks => .post j x (if (0 : Int) = k then putP o p ks else p) (if (1 : Int) = k then putP o q ks else q)
def newK (o : Pt) (k : Int) (ks : List Int) (kid : Int × Pt) : Pt := if kid.1 = k then putP o kid.2 ks else kid.2
def reb : Pt → List Pt → Pt
  | .tell x t _, [p] => .tell x t p
  | .lett x t _, [p] => .lett x t p
  | .iff t _ _, [p, q] => .iff t p q
  | .post j x _ _, [p, q] => .post j x p q
  | p, _ => p
theorem putP_reb (o : Pt) (p : Pt) (k : Int) (ks : List Int) : putP o p (k :: ks) = reb p ((lkids p).map (newK o k ks)) := by cases p <;> rfl
theorem kP_ite {c : Prop} [Decidable c] {a b : Pt} (h1 : kP a) (h2 : kP b) : kP (if c then a else b) := by split <;> assumption
theorem putP_kP {o : Pt} (ho : kP o) : ∀ {p : Pt} {ks : List Int}, kP p → kP (putP o p ks)
  | p, [], _ => by cases p <;> exact ho
  | .give j t, _ :: _, h => h
  | .ask f ts j, _ :: _, h => h
  | .tell x t p, k :: ks, h => ⟨h.1, h.2.1, kP_ite (putP_kP ho h.2.2) (h.2.2)⟩
  | .lett x t p, k :: ks, h => ⟨h.1, h.2.1, kP_ite (putP_kP ho h.2.2) (h.2.2)⟩
  | .iff t p q, k :: ks, h => ⟨h.1, kP_ite (putP_kP ho h.2.1) (h.2.1), kP_ite (putP_kP ho h.2.2) (h.2.2)⟩
  | .post j x p q, k :: ks, h => ⟨h.1, h.2.1, kP_ite (putP_kP ho h.2.2.1) (h.2.2.1), kP_ite (putP_kP ho h.2.2.2) (h.2.2.2)⟩
theorem putP_cnt {o : Pt} : ∀ {p : Pt} {ks : List Int}, pcnt (putP o p ks) ≤ pcnt p + pcnt o
  | p, [] => by cases p <;> exact Nat.le_add_left _ _
  | .give j t, _ :: _ => Nat.le_add_right _ _
  | .ask f ts j, _ :: _ => Nat.le_add_right _ _
  | .tell x t p, k :: ks => by
    have := putP_cnt (o := o) (p := p) (ks := ks)
    show 1 + pcnt (if (1 : Int) = k then putP o p ks else p) ≤ 1 + pcnt p + pcnt o
    split <;> omega
  | .lett x t p, k :: ks => by
    have := putP_cnt (o := o) (p := p) (ks := ks)
    show 1 + pcnt (if (1 : Int) = k then putP o p ks else p) ≤ 1 + pcnt p + pcnt o
    split <;> omega
  | .iff t p q, k :: ks => by
    have := putP_cnt (o := o) (p := p) (ks := ks)
    have := putP_cnt (o := o) (p := q) (ks := ks)
    show 1 + pcnt (if (1 : Int) = k then putP o p ks else p) + pcnt (if (2 : Int) = k then putP o q ks else q) ≤ 1 + pcnt p + pcnt q + pcnt o
    by_cases c : (1 : Int) = k
    · rw [if_pos c, if_neg (by omega)]; omega
    · rw [if_neg c]; split <;> omega
  | .post j x p q, k :: ks => by
    have := putP_cnt (o := o) (p := p) (ks := ks)
    have := putP_cnt (o := o) (p := q) (ks := ks)
    show 1 + pcnt (if (0 : Int) = k then putP o p ks else p) + pcnt (if (1 : Int) = k then putP o q ks else q) ≤ 1 + pcnt p + pcnt q + pcnt o
    by_cases c : (0 : Int) = k
    · rw [if_pos c, if_neg (by omega)]; omega
    · rw [if_neg c]; split <;> omega
def PV (H : Hp) (p : Pt) (v : V) : Prop := ∃ b, v = .ref b ∧ PAt H p b
theorem PV.tk {H H' : Hp} (e : TK H H') {p : Pt} {v : V} (h : PV H p v) : PV H' p v := let ⟨b, e1, h1⟩ := h; ⟨b, e1, h1.tk e⟩
theorem reb_at {H : Hp} {p : Pt} {a : Addr} {g : Int × Pt → Pt} {vs : List V} (hA : PAt H p a) (h : All2 (PV H) ((lkids p).map g) vs) : ∃ xs, H a = some (.tup xs) ∧ xs.length ≤ 5 ∧ vs.length ≤ xs.length ∧
    ∀ {H' : Hp} {r : Addr}, TK H H' → H' r = some (.tup (xs.take (xs.length - vs.length) ++ vs)) → PAt H' (reb p ((lkids p).map g)) r := by
  cases p with
  | give j t =>
    obtain ⟨b, h1, h2⟩ := hA
    match vs, h with
    | [], _ => exact ⟨_, h1, by simp, by simp, fun tk hr => ⟨b, hr, h2.tk tk⟩⟩
  | ask f ts j =>
    obtain ⟨b, us, h1, h2, h3⟩ := hA
    match vs, h with
    | [], _ => exact ⟨_, h1, by simp, by simp, fun tk hr => ⟨b, us, hr, tk _ _ h2, h3.imp fun _ _ z => z.tk tk⟩⟩
  | tell x t p =>
    obtain ⟨b, c, h1, h2, h3⟩ := hA
    match vs, h with
    | [_], ⟨⟨d, rfl, hd⟩, _⟩ => exact ⟨_, h1, by simp, by simp, fun tk hr => ⟨b, d, hr, h2.tk tk, hd.tk tk⟩⟩
  | lett x t p =>
    obtain ⟨b, c, h1, h2, h3⟩ := hA
    match vs, h with
    | [_], ⟨⟨d, rfl, hd⟩, _⟩ => exact ⟨_, h1, by simp, by simp, fun tk hr => ⟨b, d, hr, h2.tk tk, hd.tk tk⟩⟩
  | iff t p q =>
    obtain ⟨b, c, d, h1, h2, h3, h4⟩ := hA
    match vs, h with
    | [_, _], ⟨⟨d1, rfl, hd1⟩, ⟨d2, rfl, hd2⟩, _⟩ => exact ⟨_, h1, by simp, by simp, fun tk hr => ⟨b, d1, d2, hr, h2.tk tk, hd1.tk tk, hd2.tk tk⟩⟩
  | post j x p q =>
    obtain ⟨c, d, h1, h2, h3⟩ := hA
    match vs, h with
    | [_, _], ⟨⟨d1, rfl, hd1⟩, ⟨d2, rfl, hd2⟩, _⟩ => exact ⟨_, h1, by simp, by simp, fun tk hr => ⟨d1, d2, hr, hd1.tk tk, hd2.tk tk⟩⟩
section
variable {P : Program} {w : World} {K : PySem.W.Frag} {mg : Str → Option Value} {base : Heap}
/-! ### _law_put -/
def spLPut : Nat → Sp
  | 0 => fun _ _ _ _ => False
  | n + 1 => fun vs H Q _ => ∃ (a nb ob : Addr) (p o : Pt) (ks : List Int), vs = [.ref a, .ref nb, .ref ob] ∧ PAt H p a ∧ PAt H o ob ∧ H nb = some (.tup (ks.map V.int)) ∧ ks.length ≤ n ∧ ∀ r H', Same H H' → PAt H' (putP o p ks) r → Q (.ref r) H'
end
end KB

namespace KB
open PySem PySem.Spec PyProof.Rows L2 LamX NdefX

/-! ### what stays where tables of code objects may grow -/
def Sx (H H' : Hp) : Prop := ExtN H H' ∧ ∀ b, H' b = none → H b = none
theorem Sx.refl (H : Hp) : Sx H H := ⟨ExtN.refl H, fun _ z => z⟩
theorem Sx.trans {H H1 H2 : Hp} (a : Sx H H1) (b : Sx H1 H2) : Sx H H2 := ⟨a.1.trans b.1, fun x z => a.2 x (b.2 x z)⟩
theorem Sx.free {H H' : Hp} (s : Sx H H') {b : Addr} (z : H' b = none) : H b = none := s.2 b z
theorem Sx.at_ {H H' : Hp} (s : Sx H H') {b : Addr} {o : HO} (h : H b = some o) (n : ∀ ps, o ≠ .tbl ps) : H' b = some o := s.1 b o h n
theorem Sx.t {H H' : Hp} (s : Sx H H') {b : Addr} {xs : List V} (h : H b = some (.tup xs)) : H' b = some (.tup xs) := s.1 b _ h fun _ z => nomatch z
theorem Sx.l {H H' : Hp} (s : Sx H H') {b : Addr} {xs : List V} (h : H b = some (.lst xs)) : H' b = some (.lst xs) := s.1 b _ h fun _ z => nomatch z
theorem Sx.d {H H' : Hp} (s : Sx H H') {b : Addr} {kvs : List (Key × V)} (h : H b = some (.dK kvs)) : H' b = some (.dK kvs) := s.1 b _ h fun _ z => nomatch z
theorem Sx.tk {H H' : Hp} (s : Sx H H') : TK H H' := fun _ _ h => s.t h
theorem Sx.code {H H' : Hp} (s : Sx H H') {c : Addr} {q : Str} (h : H c = some (CodeO c q)) : H' c = some (CodeO c q) := s.1 c _ h codeO_ne
theorem sx_same {H H' : Hp} (s : Same H H') : Sx H H' := ⟨fun b o h _ => s b o h, fun b z => s.free z⟩
theorem sx_new {H : Hp} {p : Addr} (h : H p = none) (o : HO) : Sx H (upd H p o) := sx_same (same_new h o)
theorem sx_mut {H H' : Hp} (s : Sx H H') {a : Addr} (h : H a = none) (o : HO) : Sx H (upd H' a o) := by
  refine ⟨fun b u z n => ?_, fun b z => ?_⟩
  · rw [upd_ne (ne_of_none z h)]
    exact s.1 b u z n
  · by_cases e : b = a
    · rw [e]; exact h
    · rw [upd_ne e] at z
      exact s.2 b z
theorem tabs_new {T : List (Addr × Str)} {H H' : Hp} (t : Tabs T H) (s : Same H H') : Tabs T H' := t.ext fun b o h => s b o h
/-- nothing that is a table is written -/
theorem tabs_mut {T : List (Addr × Str)} {H : Hp} (t : Tabs T H) {a : Addr} {xs : List V} (h : H a = some (.lst xs)) (o : HO) : Tabs T (upd H a o) := fun p hp => by
  obtain ⟨ps, h1, h2, h3⟩ := t p hp
  refine ⟨ps, by rw [upd_ne (ne_of h1 h (fun z => nomatch z))]; exact h1, h2, fun pos cv hc => ?_⟩
  obtain ⟨c, e1, e2⟩ := h3 pos cv hc
  refine ⟨c, e1, ?_⟩
  rw [upd_ne (ne_of e2 h (fun z => by unfold CodeO at z; cases z))]
  exact e2
/-! ### a lambda with parameters -/
/-- its words, the cells that it captured, its code object -/
structure LF where
  qual : Str
  pr : Arguments
  bd : Expr
  sc : Scope
  cl : List (Str × Addr)
  c : Addr
abbrev LF.obj (F : LF) (pm ctv : Value) : Obj := PySem.W.kla_obj "<lambda>" F.qual F.pr F.bd F.sc F.cl pm F.c ctv
def LamO (f : Addr) (F : LF) : HO := .ext fun h => ∃ pm ctv : Value, h.get? f = some (F.obj pm ctv)
theorem lamO_ne {f : Addr} {F : LF} (ps : Array Value) : LamO f F ≠ .tbl ps := fun z => by
  unfold LamO at z
  cases z
theorem lamO_at {P : Program} {w : World} {H : Hp} {h : Heap} {f : Addr} {F : LF} (ok : HOk P w H h) (e : H f = some (LamO f F)) : ∃ pm ctv : Value, h.get? f = some (F.obj pm ctv) := (ok f _ e).1
/-- what is known of a lambda at f -/
def Kn (f : Addr) (F : LF) (H : Hp) : Prop := H f = some (LamO f F) ∧ H F.c = some (CodeO F.c F.qual)
theorem Kn.sx {f : Addr} {F : LF} {H H' : Hp} (s : Sx H H') (k : Kn f F H) : Kn f F H' := ⟨s.1 f _ k.1 lamO_ne, s.code k.2⟩
section
variable {X : Cx} {pins : List (Addr × Obj)} {σ : L2.St} {H : Hp} {s : Shared}
theorem inv_lam {F : LF} {pm ctv : Value} {t' : Nat} (I : Inv X pins σ H s) : Inv X pins σ (upd H s.heap.objs.size (LamO s.heap.objs.size F)) { s with heap := s.heap.push (F.obj pm ctv), toks := t' } := by
  have e : (s.heap.push (F.obj pm ctv)).get? s.heap.objs.size = some (F.obj pm ctv) := Heap.get?_push_size _ rfl
  exact I.laid (fun b u z => Heap.get?_push_of_some _ z) (Nat.le_refl _) ⟨⟨pm, ctv, e⟩, ⟨_, e⟩, fun h1 h2 z st => let ⟨p, t, y⟩ := z; ⟨p, t, st _ y⟩⟩
/-- the lambda is made; what was known stays, nothing that was known is gone -/
theorem lam_mk {T : List (Addr × Str)} {c P : Addr} {pr : Arguments} {bd : Expr} {sc : Scope} {pos : Pos} {E Q : Value → Shared → Prop} (I : Inv X pins σ H s) (TB : TabB X.base X.mg c P) (hcode : X.env.code = .ref c)
    (hm : (P, X.env.qual ++ "<lambda>") ∈ T) (hu : ∀ p ∈ T, p.1 = P → p.2 = X.env.qual ++ "<lambda>") (hT : Tabs T H) (hdef : defaultsOf pr X.env = ([], [])) (hfree : ∀ y ∈ sc.names, y.2 = .free → ∃ c, X.env.cells.lookup y.1 = some c)
    (h : ∀ (f c' : Addr) (H1 : Hp) (s' : Shared), Inv X pins σ H1 s' → Sx H H1 → Tabs T H1 → H f = none → Kn f ⟨X.env.qual ++ "<lambda>", pr, bd, sc, cloFrom X.env.cells sc.names [], c'⟩ H1 → Q (.ref f) s') :
    wpAny (model X.prog X.w) X.A (eval (.Lambda pr bd sc pos) X.env) Q E s := by
  obtain ⟨tb, kP, kt, ka⟩ := hT _ hm
  have heapP := I.hok P _ kP
  have heapP : s.heap.get? P = some { cls := .none, data := .fields tb } := heapP
  apply PySem.W.kla_eval hdef
  cases hc : codeAmong pos tb.toList with
  | some cv =>
    obtain ⟨c', rfl, known⟩ := ka pos cv hc
    apply PySem.W.kla_makeFunctionHit (mg := X.mg) (c := c) (P := P) (ps := tb) (closure_ok hfree) I.ok.glob (I.mod.glob.keeps I.bk) hcode (TB.code.keeps I.bk) heapP kt hc (TB.bm.keeps I.bk)
    intro ctv h' tk ext big
    have J : Inv X pins σ H { s with heap := h', toks := tk } := I.kept ext
    have nF : H h'.objs.size = none := J.hok.fresh (Nat.le_refl _)
    have up := sx_new nF (LamO h'.objs.size ⟨X.env.qual ++ "<lambda>", pr, bd, sc, cloFrom X.env.cells sc.names [], c'⟩)
    exact h h'.objs.size c' _ _ (inv_lam J) up (tabs_new hT (same_new nF _)) nF ⟨upd_same, up.code known⟩
  | none =>
    apply PySem.W.kla_makeFunction (mg := X.mg) (c := c) (P := P) (ps := tb) (closure_ok hfree) I.ok.glob (I.mod.glob.keeps I.bk) hcode (TB.code.keeps I.bk) heapP kt hc TB.gP (TB.bm.keeps I.bk)
    intro c' ctv h' tk ext lo hi rec tab
    obtain ⟨c2, oc, vs, t, e2, hoc, hd, hv⟩ := rec
    cases e2
    have newC : H c' = none := I.hok.fresh lo
    have J := inv_table (t' := tk) (more := #[rawInt pos.line, rawInt pos.col, .ref c']) (h' := h') (q := X.env.qual ++ "<lambda>") I kP (fun b o n e => ext b o n e) tab lo ⟨oc, vs, t, hoc, hd, hv⟩
    have up : Sx H (upd (upd H P (.tbl (tb ++ #[rawInt pos.line, rawInt pos.col, .ref c']))) c' (CodeO c' (X.env.qual ++ "<lambda>"))) := by
      refine ⟨fun b o e n => ?_, fun b e => upd_none (upd_none e)⟩
      have n1 : b ≠ c' := ne_of_none e newC
      have n2 : b ≠ P := fun z => by
        rw [z, kP] at e
        exact n tb (Option.some.inj e).symm
      rw [upd_ne n1, upd_ne n2]
      exact e
    have T1 : Tabs T (upd (upd H P (.tbl (tb ++ #[rawInt pos.line, rawInt pos.col, .ref c']))) c' (CodeO c' (X.env.qual ++ "<lambda>"))) := fun p hp => by
      by_cases hb : p.1 = P
      · rw [hu p hp hb, hb]
        have eL : (tb ++ #[rawInt pos.line, rawInt pos.col, Value.ref c']).toList = tb.toList ++ [rawInt pos.line, rawInt pos.col, .ref c'] := by simp
        refine ⟨_, (upd_ne (ne_of_none kP newC)).trans upd_same, by rw [eL]; exact PySem.TriplesOk_snoc _ _ _ _ kt, fun p' cv hcv => ?_⟩
        rw [eL] at hcv
        rcases among_app _ kt hcv with z | z
        · obtain ⟨c0, q1, q2⟩ := ka p' cv z
          exact ⟨c0, q1, up.code q2⟩
        · exact ⟨c', z, upd_same⟩
      · obtain ⟨ps', q1, q2, q3⟩ := hT p hp
        refine ⟨ps', (upd_ne (ne_of_none q1 newC)).trans ((upd_ne hb).trans q1), q2, fun pos' cv hcv => ?_⟩
        obtain ⟨c0, z1, z2⟩ := q3 pos' cv hcv
        exact ⟨c0, z1, up.code z2⟩
    have nF := J.hok.fresh (Nat.le_refl _)
    have up2 := sx_new nF (LamO h'.objs.size ⟨X.env.qual ++ "<lambda>", pr, bd, sc, cloFrom X.env.cells sc.names [], c'⟩)
    exact h h'.objs.size c' _ _ (inv_lam J) (up.trans up2) (tabs_new T1 (same_new nF _)) (up.free nF) ⟨upd_same, up2.code upd_same⟩
/-- a lambda, by what it leaves -/
def tLambda (T : List (Addr × Str)) (mk : Addr → LF) : TE := fun σ H Q => Tabs T H ∧ ∀ (f c' : Addr) (H1 : Hp), Sx H H1 → Tabs T H1 → H f = none → Kn f (mk c') H1 → Q (.ref f) H1
theorem pe_lambda {T : List (Addr × Str)} {c P : Addr} {pr : Arguments} {bd : Expr} {sc : Scope} {pos : Pos} (TB : TabB X.base X.mg c P) (hcode : X.env.code = .ref c) (hm : (P, X.env.qual ++ "<lambda>") ∈ T) (hu : ∀ p ∈ T, p.1 = P → p.2 = X.env.qual ++ "<lambda>")
    (hdef : defaultsOf pr X.env = ([], [])) (hfree : ∀ y ∈ sc.names, y.2 = .free → X.env.scope.names.lookup y.1 = some .cell ∨ X.env.scope.names.lookup y.1 = some .free) :
    PE X (.Lambda pr bd sc pos) (tLambda T fun c' => ⟨X.env.qual ++ "<lambda>", pr, bd, sc, cloFrom X.env.cells sc.names [], c'⟩) := by
  refine ⟨fun pins s σ H Q I h => ?_⟩
  obtain ⟨hT, h⟩ := h
  have hfr : ∀ y ∈ sc.names, y.2 = .free → ∃ c, X.env.cells.lookup y.1 = some c := fun y hy e => (hfree y hy e).elim (fun z => I.ok.has _ (.inl z)) fun z => I.ok.has _ (.inr z)
  exact lam_mk I TB hcode hm hu hT hdef hfr fun f c' H1 s' J up T1 nf kn => ⟨.ref f, H1, J, rfl, h f c' H1 up T1 nf kn⟩
end
/-- that a lambda stands at f from (s, H) on, as long as kn: what the def that got it may lean on -/
structure LamAt (P : Program) (w : World) (K : PySem.W.Frag) (mg : Str → Option Value) (base : Heap) (fs : List Addr) (k : Nat) (f : Addr) (kn : Hp → Prop) (sp : List V → Hp → VK → Prop) (s : Shared) (H : Hp) : Prop where
  kp : ∀ H1 H2, Sx H1 H2 → kn H1 → kn H2
  fn : ∀ (s1 : Shared) (H1 : Hp), HOk P w H1 s1.heap → kn H1 → PySem.W.FnAt f s1.heap
  run : ∀ (A : Around) (outer : List Env) (s1 : Shared) (H1 : Hp) (us : List Value) (vs : List V) (Q : VK), Room k A → Env0 P w K mg base A outer s1 H1 → Un fs [] H H1 s.heap s1.heap → kn H1 → Vals vs us → sp vs H1 Q →
    codeAny (model P w) A (.call (.ref f) ⟨us, []⟩) (CR CX0 outer P w H1 s1 Q E0) s1
theorem cells_un {cl : List (Str × Addr)} {fr : List Str} {ws : List (Option V)} {fs : List Addr} {h h1 : Heap} {H H1 : Hp} (C : CellsAt cl fr ws h H) (un : Un fs [] H H1 h h1) : CellsAt cl fr ws h1 H1 := by
  have kp : ∀ y c, cl.lookup y = some c → ∀ v, h.IsCell c v → h1.IsCell c v := fun y c e v ⟨o, ho, hd⟩ => by
    obtain ⟨sl, q⟩ := un.any ho (C.all y c e).1 (by simp)
    exact ⟨_, q, hd⟩
  refine ⟨C.len, fun y c e => ?_, C.inj, fun i y e => ?_⟩
  · obtain ⟨n, v, z⟩ := C.all y c e
    refine ⟨?_, v, kp y c e v z⟩
    obtain ⟨o, ho, _⟩ := z
    exact un.free c o ho n (by simp)
  · obtain ⟨c, hc, hv⟩ := C.has i y e
    refine ⟨c, hc, fun v ev => ?_⟩
    obtain ⟨u, r, z⟩ := hv v ev
    exact ⟨u, r, kp y c hc _ z⟩
section
variable {X : Cx} {pins : List (Addr × Obj)} {σ : L2.St} {H : Hp} {s : Shared}
theorem lam_at {N ps fr : List Str} {js : List Nat} {k : Nat} {f : Addr} {F : LF} {tb : TE} (I : Inv X pins σ H s) (S : NScope N ps fr F.sc) (cp : Caps X F.cl fr js)
    (hbind : ∀ (pm ctv : Value) (us : List Value), us.length = ps.length → bindArgs (PySem.W.kla_fn "<lambda>" F.qual F.pr F.bd F.sc F.cl pm (.ref F.c) ctv) ⟨us, []⟩ = pure (ps.zip us))
    (hb : ∀ (A : Around) (outer : List Env) (s1 : Shared) (H1 : Hp), Room k (A.deeper (envF ⟨"<lambda>", F.qual, F.pr, [], F.sc, F.cl, F.c⟩ f s1.heap.objs.size)) →
      PE (ncx CX0 X.prog X.w X.K X.mg X.base N ⟨"<lambda>", F.qual, F.pr, [], F.sc, F.cl, F.c⟩ f A outer s1 H1 E0) F.bd tb) :
    LamAt X.prog X.w X.K X.mg X.base (frs X.stack) (k + 1) f (Kn f F) (fun vs H1 Q => vs.length = ps.length ∧ tb (startF N vs (js.map (slotAt σ))) H1 Q) s H := by
  refine ⟨fun H1 H2 sx kn => kn.sx sx, fun s1 H1 ok kn => ?_, fun A outer s1 H1 us vs Q hr e0 un kn r hsp => ?_⟩
  · obtain ⟨pm, ctv, e⟩ := lamO_at ok kn.1
    exact ⟨_, _, _, _, e⟩
  obtain ⟨hl, ht⟩ := hsp
  obtain ⟨pm, ctv, e⟩ := lamO_at e0.hok kn.1
  have lim : s1.heap.NoLimit := e0.mod.nolimit.keeps fun b o e => (e0.bs b o e).1
  have C := cells_un (cells_of I cp) un
  refine PySem.W.kla_callFunE hr.depth e rfl S.co S.gen rfl (codeO_at e0.hok kn.2) ?_
  rw [hbind pm ctv us (by rw [← r.length]; exact hl)]
  refine wpAny_pure (wpAny_newFunctionEnv S.nocell (fun y hy => S.par y.1 (List.of_mem_zip hy).1) (fun h1 ns sb => ⟨lim.fresh _ sb, ?_⟩) S.kind)
  show codeAny _ _ (.expr F.bd (envF ⟨"<lambda>", F.qual, F.pr, [], F.sc, F.cl, F.c⟩ f s1.heap.objs.size)) _ _
  have kp : ∀ b o, s1.heap.get? b = some o → h1.get? b = some o := fun b o e => sb.extBut b o (Nat.ne_of_lt (Heap.lt_size e)) (Heap.get?_push_of_some _ e)
  have J : Inv (ncx CX0 X.prog X.w X.K X.mg X.base N ⟨"<lambda>", F.qual, F.pr, [], F.sc, F.cl, F.c⟩ f A outer s1 H1 E0) [] (startF N vs (js.map (slotAt σ))) H1 { s1 with heap := h1, toks := s1.toks + (ps.zip us).length } := inv_startN S hr.hd e0 hl r C ns kp
  refine PySem.W.kla_codeExpr (wpAny_mono ((hb A outer s1 H1 (hr.deeper _)).run [] _ _ H1 Q J ht) (fun v s' z => ?_) fun e s' z => z)
  obtain ⟨x, H2, J2, rv, qv⟩ := z
  exact ⟨x, H2, J2.os, J2.bare, J2.base, J2.hok, rv, qv⟩
end
/-! ### a parameter that holds a lambda, called -/
def tCallM (i : Nat) (f : Addr) (kn : Hp → Prop) (sp : List V → Hp → VK → Prop) (t : TA) : TE := fun σ H Q => (σ[i]? = some (some (.ref f)) ∧ kn H) ∧ t σ H fun vs H1 => kn H1 ∧ sp vs H1 Q
theorem pe_callM {CX : CXT} {P : Program} {w : World} {K : PySem.W.Frag} {mg : Str → Option Value} {base : Heap} {N : List Str} {x a : Str} {sg : Scope} {g f : Addr} {cd : Value} {A : Around} {outer : List Env} {s : Shared} {H : Hp} {E : XK} {k i : Nat} {kn : Hp → Prop} {sp : List V → Hp → VK → Prop} {t : TA} {e : Expr} {es : List Expr} {p pos : Pos}
    (L : LamAt P w K mg base (frs outer) k f kn sp s H) (hr : Room k (A.deeper (envOfC x sg s.heap.objs.size g cd))) (hN : N[i]? = some a) (hv : Vis sg a) (ha : PA (cxOf CX P w K mg base N x sg g cd A outer s H E).nox (e :: es) t)
    (hd : (a == ("__debug__" : Str)) = false := by decide) (hcd : (a == ("__classdict__" : Str)) = false := by decide)
    (he : starEach (e :: es) (cxOf CX P w K mg base N x sg g cd A outer s H E).nox.env = (false, eval e (cxOf CX P w K mg base N x sg g cd A outer s H E).nox.env) :: starEach es (cxOf CX P w K mg base N x sg g cd A outer s H E).nox.env := by rfl)
    (hpl : (backTo pos (starEach es (cxOf CX P w K mg base N x sg g cd A outer s H E).nox.env)).any (·.1) = false := by rfl) :
    PE (cxOf CX P w K mg base N x sg g cd A outer s H E).nox (.Call (.Name a p) (e :: es) [] pos) (tCallM i f kn sp t) := by
  refine ⟨fun pins s0 σ H0 Q I h => ?_⟩
  obtain ⟨⟨hs, hkn⟩, ht⟩ := h
  refine wpAny_Call_Name_kw (thn ((pe_var (pos := p) hN hv hd hcd).run pins s0 σ H0 (fun v H1 => v = .ref f ∧ H1 = H0) I ⟨.ref f, hs, rfl, rfl⟩) fun u s1 z => ?_)
  obtain ⟨v, H1, I1, r1, rfl, rfl⟩ := z
  obtain rfl : u = Value.ref f := r1
  refine PySem.W.callWith_F (first := []) (L.fn s1 _ I1.hok hkn) (thn (ha.run pos pins s1 σ _ _ I1 ht) fun us s2 z => ?_) he hpl
  obtain ⟨vs, H2, I2, r, hkn2, q⟩ := z
  refine ⟨L.fn s2 H2 I2.hok hkn2, wpAny_call (codeAny_mono (L.run _ _ s2 H2 us vs Q hr I2.env0 I2.base hkn2 r q) fun res s' y => ?_)⟩
  match res, y with
  | .ok (.ret u), y => exact I2.after y
  | .ok .next, y => exact False.elim y
  | .ok .brk, y => exact False.elim y
  | .ok .cont, y => exact False.elim y
  | .error _, y => exact False.elim y
/-! ### a def that is handed a lambda -/
/-- what is promised of a def whose parameter is a lambda: by the lambda's promise -/
abbrev SpL := Addr → (Hp → Prop) → (List V → Hp → VK → Prop) → Sp
structure FnL (P : Program) (w : World) (K : PySem.W.Frag) (mg : Str → Option Value) (base : Heap) (kl k : Nat) (f : Addr) (fd : FuncData) (ps : List Str) (sp : SpL) : Prop where
  ln : ∀ fl kn sl vs H Q E, sp fl kn sl vs H Q E → vs.length = ps.length
  go : ∀ (A : Around) (outer : List Env) (s : Shared) (H : Hp) (us : List Value) (vs : List V) (Q : VK) (fl : Addr) (kn : Hp → Prop) (sl : List V → Hp → VK → Prop), Room (k + kl) A → Env0 P w K mg base A outer s H → LamAt P w K mg base (frs outer) kl fl kn sl s H → BindsTo s fd ⟨us, []⟩ (ps.zip us) → Vals vs us → sp fl kn sl vs H Q E0 →
    codeAny (model P w) A (.call (.ref f) ⟨us, []⟩) (CR CX0 outer P w H s Q E0) s
theorem okL {P : Program} {w : World} {K : PySem.W.Frag} {mg : Str → Option Value} {base : Heap} {x qual : Str} {st : Stmt} {f : Addr} {fd : FuncData} {N ps : List Str} {kl k : Nat} {sp : SpL} (F : L2.Fun K x qual st f fd) (S : FnScope N ps (defScope st)) (len : ∀ fl kn sl vs H Q E, sp fl kn sl vs H Q E → vs.length = ps.length)
    (hb : ∀ (cdv : Value) (A : Around) (outer : List Env) (s : Shared) (H : Hp) (vs : List V) (Q : VK) (fl : Addr) (kn : Hp → Prop) (sl : List V → Hp → VK → Prop), Room (k + kl) (A.deeper (envOfC qual (defScope st) s.heap.objs.size f cdv)) → LamAt P w K mg base (frs outer) kl fl kn sl s H → sp fl kn sl vs H Q E0 →
      ∃ t, PSs (cxOf CX0 P w K mg base N qual (defScope st) f cdv A outer s H E0).nox (defBody st) t ∧ t { nx := fun _ H' => Q .non H', rt := Q } (start N vs) H) : FnL P w K mg base kl (k + 1) f fd ps sp := by
  obtain ⟨_, _, _, _, _, _, cv, _, _, rfl, look, code⟩ := F.ex
  refine ⟨len, fun A outer s H us vs Q fl kn sl room e0 L bnd rel want => ?_⟩
  have grow := fun b u e => (e0.bs b u e).1
  have inK : K.In s.heap := e0.mod.kin.keeps grow
  have nolim : s.heap.NoLimit := e0.mod.nolimit.keeps grow
  have room' : Room (k + kl + 1) A := room.mono (by omega)
  apply codeAny_call_function room.depth (inK _ _ look) rfl S.co S.gen rfl (PySem.W.codeRec_of inK code)
  apply bnd
  apply wpAny_newFunctionEnv_cells S.kind
  · rintro ⟨n, v⟩ hy
    cases S.par n (List.of_mem_zip hy).1 with
    | inl q => exact Or.inl q
    | inr q => exact Or.inr ⟨q, PySem.W.cellsFrom_some _ _ _ (Or.inl q)⟩
  intro env he s1 z
  subst he
  refine ⟨nolim.keeps z.toInCall.keep, codeAny_func ?_⟩
  obtain ⟨t, ht, hq⟩ := hb cv A outer s H vs Q fl kn sl (room'.deeper _) L want
  apply wpAny_mono (ht.nox.run [] s1 (start N vs) H _ (inv_start S room.hd e0 (len _ _ _ _ _ _ _ want) rel z) hq)
  · intro fl s' z
    cases fl with
    | ret u =>
      obtain ⟨v, σ', H', J, rv, q⟩ := z
      exact ⟨v, H', J.os, J.bare, J.base, J.hok, rv, q⟩
    | next =>
      obtain ⟨σ', H', J, q⟩ := z
      exact ⟨.non, H', J.os, J.bare, J.base, J.hok, rfl, q⟩
    | brk => exact z.choose_spec.choose_spec.2.elim
    | cont => exact z.choose_spec.choose_spec.2.elim
  · intro e s' z
    exact z
/-- a def called with a lambda among what it is handed -/
def tCallLm (N : List Str) (n : Nat) (js : List Nat) (tb : TE) (mk : Addr → LF) (sp : SpL) (t : TA) : TE := fun σ H Q => t σ H fun vs H1 => ∃ f c', Kn f (mk c') H1 ∧ sp f (Kn f (mk c')) (fun us H2 Q' => us.length = n ∧ tb (startF N us (js.map (slotAt σ))) H2 Q') vs H1 Q E0
theorem pe_callLm {X : Cx} {kl k : Nat} {g : Addr} {gd : FuncData} {gps : List Str} {sp : SpL} {x : Str} {p pos : Pos} {e : Expr} {es : List Expr} {t : TA} {N ps fr : List Str} {js : List Nat} {mk : Addr → LF} {tb : TE}
    (G : FnL X.prog X.w X.K X.mg X.base (kl + 1) k g gd gps sp) (hr : Room (k + (kl + 1)) X.A) (hg : Gl X x) (hm : X.mg x = some (.ref g)) (hk : PySem.W.keepIn X.K (.ref g) = true) (hbg : Binds X.K gd gps []) (ha : PA X (e :: es) t)
    (S : ∀ c', NScope N ps fr (mk c').sc) (cp : X.Ok → ∀ c', Caps X (mk c').cl fr js)
    (hbind : ∀ (c' : Addr) (pm ctv : Value) (us : List Value), us.length = ps.length → bindArgs (PySem.W.kla_fn "<lambda>" (mk c').qual (mk c').pr (mk c').bd (mk c').sc (mk c').cl pm (.ref (mk c').c) ctv) ⟨us, []⟩ = pure (ps.zip us))
    (hb : ∀ (f c' : Addr) (A : Around) (outer : List Env) (s1 : Shared) (H1 : Hp), Room kl (A.deeper (envF ⟨"<lambda>", (mk c').qual, (mk c').pr, [], (mk c').sc, (mk c').cl, (mk c').c⟩ f s1.heap.objs.size)) →
      PE (ncx CX0 X.prog X.w X.K X.mg X.base N ⟨"<lambda>", (mk c').qual, (mk c').pr, [], (mk c').sc, (mk c').cl, (mk c').c⟩ f A outer s1 H1 E0) (mk c').bd tb)
    (hdb : (x == ("__debug__" : Str)) = false := by decide) (he : starEach (e :: es) X.env = (false, eval e X.env) :: starEach es X.env := by rfl) (hpl : (backTo pos (starEach es X.env)).any (·.1) = false := by rfl) :
    PE X (.Call (.Name x p) (e :: es) [] pos) (tCallLm N ps.length js tb mk sp t) := by
  refine ⟨fun pins s σ H Q I h => ?_⟩
  apply wpAny_Call_Name_kw (ld_glob I hg hm ?_ hdb)
  apply PySem.W.callWith_K (h₀ := X.base) I.ok.mod.kin hk ?_ he hpl
  apply thn (ha.run pos pins s σ H _ I h)
  rintro us s1 ⟨vs, H1, I1, rv, f, c', kn, want⟩
  refine ⟨I1.kIn, ?_⟩
  have L := lam_at (k := kl) I1 (S c') (cp I1.ok c') (hbind c') (fun A outer s2 H2 room => hb f c' A outer s2 H2 room)
  have hl : (us ++ []).length = gps.length := by
    rw [List.append_nil, ← rv.length]
    exact G.ln _ _ _ _ _ _ _ want
  have bd := hbg s1 us I1.kIn hl
  rw [List.append_nil] at bd
  apply wpAny_call
  apply codeAny_mono (G.go X.A X.stack s1 H1 us vs Q f _ _ hr I1.env0 L bd rv want)
  intro res s' q
  match res, q with
  | .ok (.ret u), q => exact I1.after q
  | .ok .next, q => exact False.elim q
  | .ok .brk, q => exact False.elim q
  | .ok .cont, q => exact False.elim q
  | .error e, q => exact False.elim q
end KB

namespace KB
open PySem L2 HT

/-! ### del xs[a:] -/
theorem filt_take {α : Type} (sel : Nat → Bool) (a : Nat) : ∀ (xs : List α) (j : Nat), (∀ k, j ≤ k → k < j + xs.length → sel k = decide (a ≤ k)) →
    (xs.zipIdx j).filterMap (fun p => if sel p.2 = true then none else some p.1) = xs.take (a - j)
  | [], _, _ => by simp
  | x :: r, j, h => by
    have h0 := h j (Nat.le_refl _) (by rw [List.length_cons]; omega)
    have ih := filt_take sel a r (j + 1) fun k h1 h2 => h k (by omega) (by rw [List.length_cons]; omega)
    rw [List.zipIdx_cons, List.filterMap_cons]
    by_cases c : a ≤ j
    · rw [decide_eq_true c] at h0
      simp only [h0, if_true]
      rw [ih]
      have e1 : a - j = 0 := by omega
      have e2 : a - (j + 1) = 0 := by omega
      rw [e1, e2]
      rfl
    · rw [decide_eq_false c] at h0
      simp only [h0]
      rw [ih]
      have e1 : a - j = (a - (j + 1)) + 1 := by omega
      rw [e1]
      rfl
theorem bounds_from {a n : Nat} (h : a ≤ n) : sliceBounds (some (a : Int)) none none n = ((a : Int), (n : Int), 1) := by
  simp only [sliceBounds, Option.getD_none]
  have h1 : ¬ ((a : Int) < 0) := by omega
  simp only [h1, if_false, show (1 : Int) > 0 by decide, if_true]
  congr 1
  omega
section
variable {prog : Program} {w : World} {A : Around} {E : Value → Shared → Prop} {s : Shared}
theorem delItem_from {l sl : Addr} {items : Array Value} {n : Nat} {vl : Value} {a : Nat} {Q : Unit → Shared → Prop}
    (e : s.heap.get? l = some { cls := .type "list", data := .seq items n }) (hs : s.heap.IsSliceOf sl vl .none .none) (pl : IsPart vl (some (a : Int))) (ha : a ≤ items.size)
    (hsz : items.size ≤ sizeLine) (h : ∀ g : Array Value → Array Value, g items = (items.toList.take a).toArray → Q () { s with heap := s.heap.update l (Obj.mapSeq g) }) :
    wpAny (model prog w) A (delItem (.ref l) (.ref sl)) Q E s := by
  have hl : s.heap.IsList l items := PySem.IsL.isList e
  obtain ⟨os, hos, hcs, hds⟩ := id hs
  have hTs : s.TypeIs (.ref sl) "slice" := ⟨os, hos, hcs⟩
  have hstep : ¬ ((rawPart none == rawInt 0) = true) := Bool.false_ne_true
  refine wpAny_delItem_slot hl.typeIs (by decide) F.slot_list_delitem (wpAny_call_entry F.slot_list_delitem hl.typeIs F.entry_list_delitem ?_ (F.args_list_delitem_2 _ _))
  show wpAny _ _ (Builtin.List.listSubscript? (.ref sl) >>= _) _ _ s
  refine wpAny_bind ?_
  unfold Builtin.List.listSubscript?
  refine wpAny_bind (wpAny_specialOf hTs slice_no_index ?_)
  simp only [Option.isNone_none, if_true]
  refine wpAny_pure ?_
  show wpAny _ _ (typeOf (.ref sl) >>= _) _ _ s
  refine wpAny_bind (wpAny_typeOf hTs ?_)
  first
    | rw [if_neg (by decide)]
    | refine PySem.W.KFB.if_not (by decide) ?_
  rw [listSliceParts_eq]
  refine wpAny_bind (wpAny_bind (wpAny_field hos hds (x := .none) rfl (wpAny_bind (wpAny_listPart .none ?_))))
  rw [if_neg hstep]
  refine wpAny_bind (wpAny_field hos hds (x := vl) rfl (wpAny_bind (wpAny_listPart pl ?_)))
  refine wpAny_bind (wpAny_field hos hds (x := .none) rfl (wpAny_bind (wpAny_listPart .none (wpAny_pure ?_))))
  unfold Builtin.List.listItems
  refine wpAny_bind (wpAny_bind (wpAny_seqItems e rfl (wpAny_pure ?_)))
  refine wpAny_bind (wpAny_of_eq ((sliceIndices_raw (some (a : Int)) none none items.size (by simp)).trans (congrArg (pure : Int × Int × Int → Sem (Int × Int × Int)) (bounds_from ha))) ?_)
  refine wpAny_bind (wpAny_rule ?_)
  show wpAny _ _ (updateSeq l _ >>= _) _ _ s
  have hsel : ∀ (sel : Nat → Bool), (∀ k : Nat, sel k = (((a : Int) ≤ (k : Int)) && ((k : Int) < (items.size : Int)) && (((k : Int) - (a : Int)) % 1 == 0))) →
      (List.filterMap (fun p => if sel p.2 = true then none else some p.1) items.toList.zipIdx).toArray = (items.toList.take a).toArray := by
    intro sel hk
    congr 1
    refine filt_take sel a items.toList 0 fun k _ h2 => ?_
    rw [hk k]
    have h3 : (k : Int) < (items.size : Int) := by
      rw [Array.length_toList] at h2
      omega
    have h4 : (((k : Int) - (a : Int)) % 1 == 0) = true := by
      rw [Int.emod_one]
      rfl
    rw [h4, decide_eq_true h3, Bool.and_true, Bool.and_true]
    by_cases c : a ≤ k
    · rw [decide_eq_true c, decide_eq_true (by omega)]
    · rw [decide_eq_false c, decide_eq_false (by omega)]
  refine wpAny_bind (wpAny_updateSeq (hz := hsz) (_hz' := ?sz) e rfl ?_)
  case sz =>
    refine Nat.le_trans (Nat.le_of_eq (congrArg Array.size (hsel _ fun k => rfl))) ?_
    rw [List.size_toArray, List.length_take]
    omega
  refine wpAny_bind (wpAny_letGo ?_)
  exact wpAny_pure ⟨.none, rfl, h _ (hsel _ fun k => rfl)⟩
end
section
variable {X : Cx} {pos : Pos}
/-- del xs[a:] -/
def tDelFrom (to ti : TE) : TS := fun D σ H => to σ H fun x H1 => tPart ti σ H1 fun o H2 => ∃ (l : Addr) (xs : List V) (a : Nat), x = .ref l ∧ o = some (a : Int) ∧ H2 l = some (.lst xs) ∧ a ≤ xs.length ∧ D.nx σ (upd H2 l (.lst (xs.take a)))
theorem ps_delFrom {o lo : Expr} {to ti : TE} {spos tpos : Pos} (ho : PE X o to) (hi : PE X lo ti) : PS X (.Delete [.Subscript o (.Slice (some lo) none none spos) tpos] pos) (tDelFrom to ti) := by
  refine ⟨fun pins s σ H D I h => ?_⟩
  refine wpAny_Delete (wpAny_deleteEach_cons (wpAny_delete_Subscript (thn (ho.run pins s σ H _ I h) fun u s1 ⟨x, H1, I1, rx, q1⟩ => ?_)))
  refine wpAny_Slice (thn ((po_some hi).run pins s1 σ H1 _ I1 q1) fun vl s2 ⟨l', H2, I2, pl, q2⟩ => thn (po_none.run pins s2 σ H2 (fun o H3 => o = none ∧ H3 = H2) I2 ⟨rfl, rfl⟩) fun vu s3 ⟨u', H3, I3, pu, eu, eH⟩ => ?_)
  subst eu eH
  rw [evalPart_none]
  refine wpAny_pure ?_
  obtain ⟨l, xs, a, ex, eo, hH, ha, q⟩ := q2
  subst ex eo
  cases (show u = Value.ref l from rx)
  have hvu : vu = Value.none := by
    cases pu
    rfl
  subst hvu
  have I4 : Inv X pins σ H3 { s3 with heap := s3.heap.push { cls := .type "slice", data := .fields #[vl, .none, .none] } } := I3.kept (t' := s3.toks) fun b ob q => Heap.get?_push_of_some _ q
  obtain ⟨z, its, n, r, hl, e⟩ := I4.lstM hH
  refine delItem_from (a := a) e (Heap.IsSliceOf.new ..) pl (by rw [List.size_toArray, ← hl]; exact ha) (by rw [List.size_toArray, ← hl]; exact z) fun g hg => ?_
  refine wpAny_deleteEach_nil ⟨σ, _, I4.lset (its' := its.take a) (t' := s3.toks) hH e hg (r.take a) ?_, q⟩
  rw [List.length_take]
  omega
end
end KB

namespace KB
open PySem L2 HT

def kidsT : Tm → List Tm | .mk _ _ k => List.ofFn k
def hdT : Tm → Hd | .mk h _ _ => h
def lazyH : Hd → Bool | .lett _ | .iff => true | _ => false
def firstT (t : Tm) : List Tm := if lazyH (hdT t) = true then (kidsT t).take 1 else kidsT t
def restT (t : Tm) : List Tm := if lazyH (hdT t) = true then (kidsT t).drop 1 else []
def noT : Tm := mkL .plus []
def kid (t : Tm) (i : Nat) : Tm := ((kidsT t)[i]?).getD noT
theorem kids_len {h : Hd} {n : Nat} {k : _root_.Fin n → Tm} : (kidsT (.mk h n k)).length = n := List.length_ofFn
theorem kid_eq {t : Tm} {i : Nat} (h : i < (kidsT t).length) : (kidsT t)[i]? = some (kid t i) := by
  unfold kid
  rw [List.getElem?_eq_getElem h]
  rfl
theorem all2_fnR {H : Hp} : ∀ {n : Nat} {k : _root_.Fin n → Tm} {ys : _root_.Fin n → Addr}, (∀ i, At H (k i) (ys i)) → All2 (RefV H) (List.ofFn k) (Rfs ys)
  | 0, _, _, _ => trivial
  | n + 1, k, ys, h => by
    unfold Rfs
    rw [List.ofFn_succ, List.ofFn_succ]
    exact ⟨⟨ys 0, rfl, h 0⟩, all2_fnR (k := fun i => k i.succ) (ys := fun i => ys i.succ) fun i => h i.succ⟩
theorem At.kids {H : Hp} {t : Tm} {a : Addr} (h : At H t a) : ∃ xs, Lay H a (hdT t) xs ∧ All2 (RefV H) (kidsT t) xs := by
  cases t with
  | mk hd n k =>
    obtain ⟨ys, l, r⟩ := h
    exact ⟨Rfs ys, l, all2_fnR r⟩
section
variable {P : Program} {w : World} {K : PySem.W.Frag} {mg : Str → Option Value} {base : Heap}
/-! ### last_taken -/
def spLast : Sp := fun vs H Q _ => ∃ (gl : Addr) (xs : List V) (n : Nat), vs = [.ref gl, .int (n : Int)] ∧ H gl = some (.lst xs) ∧ n ≤ xs.length ∧
  ∀ H2 v, Same H H2 → H2 v = some (.tup (xs.drop (xs.length - n))) → Q (.ref v) (upd H2 gl (.lst (xs.take (xs.length - n))))
abbrev slast_taken : Stmt := top 3
theorem sclast_taken : FnScope ["got", "many", "first", "taken"] ["got", "many"] (defScope slast_taken) := ⟨rfl, rfl, rfl, by decide +kernel, rfl, by decide +kernel, by decide +kernel⟩
theorem ok_last (T : Txt K mg) {f : Addr} {fd : FuncData} (F : Fun K "last_taken" "last_taken" slast_taken f fd) : FnOk P w K mg base CX0 1 f fd ["got", "many"] spLast := by
  refine F.ok sclast_taken (fun vs H Q E h => ?_) (fun cdv A outer s H vs Q E hr h => ?_)
  · obtain ⟨gl, xs, n, rfl, _⟩ := h
    rfl
  obtain ⟨gl, xs, n, rfl, hg, hn, q⟩ := h
  refine ⟨_, pss_cons (ps_set (i := 2) sclast_taken.nd rfl (Or.inl rfl) (pe_op op_sub (pe_callB call_len_seq (by rfl) T.m_len PySem.boot_len (pa_cons (pv 0) pa_nil)) (pv 1)))
    (pss_cons (ps_set (i := 3) sclast_taken.nd rfl (Or.inl rfl) (pe_callTy call_tuple_of (by rfl) T.m_tuple (by decide +kernel) (pa_cons (pe_slice sl_list (pv 0) (po_some (pv 2)) po_none) pa_nil)))
    (pss_cons (ps_delFrom (pv 0) (pv 2)) (pss_one (ps_ret (pv 3))))), ?_⟩
  refine ⟨_, rfl, gl, _, rfl, .inl (SqL.of hg), _, rfl, _, _, rfl, rfl, ?_⟩
  have efirst : (xs.length : Int) - (n : Int) = ((xs.length - n : Nat) : Int) := by omega
  refine ⟨_, rfl, _, rfl, _, rfl, gl, _, rfl, SqL.of hg, fun u hu => ⟨u, _, rfl, .inl ⟨SqL.of upd_same, fun v hv => ?_⟩⟩⟩
  have ecut : cutV xs (some ((xs.length : Int) - (n : Int))) none = xs.drop (xs.length - n) := by
    rw [efirst, cut_from (by omega) (by omega), Int.toNat_natCast]
  have sA := (same_new hu (.lst (cutV xs (some ((xs.length : Int) - (n : Int))) none))).trans (same_new hv (.tup (cutV xs (some ((xs.length : Int) - (n : Int))) none)))
  have hv2 : upd (upd H u (.lst (cutV xs (some ((xs.length : Int) - (n : Int))) none))) v (.tup (cutV xs (some ((xs.length : Int) - (n : Int))) none)) v = some (.tup (xs.drop (xs.length - n))) := by
    rw [upd_same, ecut]
  exact ⟨_, rfl, _, rfl, _, rfl, gl, xs, xs.length - n, rfl, congrArg some efirst, sA _ _ hg, Nat.sub_le _ _, _, rfl, q _ _ sA hv2⟩
end
end KB

namespace KB
open PySem L2 HT

theorem All2.take {α : Type} {S : α → V → Prop} : ∀ {as : List α} {vs : List V} (n : Nat), All2 S as vs → All2 S (as.take n) (vs.take n)
  | _, _, 0, _ => trivial
  | [], [], _ + 1, _ => trivial
  | a :: as, v :: vs, n + 1, h => ⟨h.1, All2.take n h.2⟩
  | [], _ :: _, _ + 1, h => h.elim
  | _ :: _, [], _ + 1, h => h.elim
theorem All2.drop {α : Type} {S : α → V → Prop} : ∀ {as : List α} {vs : List V} (n : Nat), All2 S as vs → All2 S (as.drop n) (vs.drop n)
  | _, _, 0, h => h
  | [], [], _ + 1, _ => trivial
  | a :: as, v :: vs, n + 1, h => All2.drop n h.2
  | [], _ :: _, _ + 1, h => h.elim
  | _ :: _, [], _ + 1, h => h.elim
/-! ### remade as a machine of data -/
section
variable {N B : Type} (R : Tre N) (g : N → List B → B) (F : N → B)
def rmX : List (N × Bool) → List B → List B
  | [], G => G
  | (n, false) :: r, G => rmX r (G ++ [F n])
  | (n, true) :: r, G => rmX r (G.take (G.length - (R.kids n).length) ++ [g n (G.drop (G.length - (R.kids n).length))])
def rmV : List (N × Bool) → Nat → Prop
  | [], m => m = 1
  | (n, false) :: r, m => rmV r (m + 1)
  | (n, true) :: r, m => (R.kids n).length ≤ m ∧ rmV r (m - (R.kids n).length + 1)
def rmQ : List (N × Bool) → List B → Prop
  | [], _ => True
  | (n, false) :: r, G => rmQ r (G ++ [F n])
  | (n, true) :: r, G => G.drop (G.length - (R.kids n).length) = (R.kids n).map F ∧ rmQ r (G.take (G.length - (R.kids n).length) ++ [F n])
def rmW : List (N × Bool) → Nat
  | [] => 0
  | (n, false) :: r => 2 * R.sz n + rmW r
  | (n, true) :: r => 1 + rmW r
def kidsF (ks : List N) : List (N × Bool) := ks.map fun n => (n, false)
theorem rmX_kids (r : List (N × Bool)) : ∀ (ks : List N) (G : List B), rmX R g F (kidsF ks ++ r) G = rmX R g F r (G ++ ks.map F)
  | [], G => by
    show rmX R g F r G = rmX R g F r (G ++ [])
    rw [List.append_nil]
  | k :: ks, G => by
    show rmX R g F (kidsF ks ++ r) (G ++ [F k]) = _
    rw [rmX_kids r ks, List.append_assoc]
    rfl
theorem rmQ_kids (r : List (N × Bool)) : ∀ (ks : List N) (G : List B), rmQ R F r (G ++ ks.map F) → rmQ R F (kidsF ks ++ r) G
  | [], G, h => by
    rw [List.map_nil, List.append_nil] at h
    exact h
  | k :: ks, G, h => by
    show rmQ R F (kidsF ks ++ r) (G ++ [F k])
    refine rmQ_kids r ks (G ++ [F k]) ?_
    rw [List.append_assoc]
    exact h
theorem rmQ_open {n : N} {r : List (N × Bool)} {G : List B} (h : rmQ R F ((n, false) :: r) G) : rmQ R F (kidsF (R.kids n) ++ (n, true) :: r) G := by
  refine rmQ_kids R F _ _ _ ?_
  have e : (G ++ (R.kids n).map F).length - (R.kids n).length = G.length := by
    rw [List.length_append, List.length_map]
    omega
  refine ⟨?_, ?_⟩
  · rw [e, List.drop_left]
  · rw [e, List.take_left]
    exact h
theorem rmV_kids (r : List (N × Bool)) : ∀ (ks : List N) (m : Nat), rmV R r (m + ks.length) → rmV R (kidsF ks ++ r) m
  | [], m, h => h
  | k :: ks, m, h => by
    show rmV R (kidsF ks ++ r) (m + 1)
    refine rmV_kids r ks (m + 1) ?_
    have e : m + 1 + ks.length = m + (k :: ks).length := by rw [List.length_cons]; omega
    rw [e]
    exact h
theorem rmW_kids (r : List (N × Bool)) : ∀ ks : List N, rmW R (kidsF ks ++ r) = 2 * R.szs ks + rmW R r
  | [] => (Nat.zero_add _).symm
  | k :: ks => by
    show 2 * R.sz k + rmW R (kidsF ks ++ r) = _
    rw [rmW_kids r ks, R.szs_cons]
    omega
theorem rmW_len : ∀ r : List (N × Bool), r.length ≤ rmW R r
  | [] => Nat.le_refl _
  | (n, false) :: r => by
    have := rmW_len r
    have := R.pos n
    show r.length + 1 ≤ 2 * R.sz n + rmW R r
    omega
  | (n, true) :: r => by
    have := rmW_len r
    show r.length + 1 ≤ 1 + rmW R r
    omega
theorem rmX_open (hF : ∀ n, F n = g n ((R.kids n).map F)) (n : N) (r : List (N × Bool)) (G : List B) : rmX R g F (kidsF (R.kids n) ++ (n, true) :: r) G = rmX R g F ((n, false) :: r) G := by
  rw [rmX_kids]
  show rmX R g F r ((G ++ (R.kids n).map F).take ((G ++ (R.kids n).map F).length - (R.kids n).length) ++ [g n ((G ++ (R.kids n).map F).drop ((G ++ (R.kids n).map F).length - (R.kids n).length))]) = rmX R g F r (G ++ [F n])
  have e : (G ++ (R.kids n).map F).length - (R.kids n).length = G.length := by
    rw [List.length_append, List.length_map]
    omega
  rw [e, List.take_left, List.drop_left, ← hF]
theorem rmV_open {n : N} {r : List (N × Bool)} {m : Nat} (h : rmV R ((n, false) :: r) m) : rmV R (kidsF (R.kids n) ++ (n, true) :: r) m := by
  refine rmV_kids R _ _ _ ⟨Nat.le_add_left _ _, ?_⟩
  rw [Nat.add_sub_cancel]
  exact h
end
section
variable {P : Program} {w : World} {K : PySem.W.Frag} {mg : Str → Option Value} {base : Heap} {N B : Type}
/-- what a function promises that makes one thing of a part and what its parts came to -/
def spMade (R : Tre N) (S : Hp → B → V → Prop) (g : N → List B → B) : Sp := fun vs H Q _ => ∃ (n : N) (a q : Addr) (bs : List B) (us : List V), vs = [.ref a, .ref q] ∧ R.A H n a ∧ H q = some (.tup us) ∧ All2 (S H) bs us ∧ bs.length = (R.kids n).length ∧
  ∀ v H', Same H H' → S H' (g n bs) v → Q v H'
def WtV (R : Tre N) (H : Hp) (e : N × Bool) (v : V) : Prop := ∃ q a, v = .ref q ∧ H q = some (.tup [.ref a, .bl e.2]) ∧ R.A H e.1 a
theorem WtV.tk {R : Tre N} {H H' : Hp} (k : TK H H') {e : N × Bool} {v : V} (h : WtV R H e v) : WtV R H' e v := let ⟨q, a, e1, h1, h2⟩ := h; ⟨q, a, e1, k _ _ h1, R.tk k h2⟩
def spRem (R : Tre N) (S : Hp → B → V → Prop) (F : N → B) (gp gm : Addr) : Sp := fun vs H Q _ => ∃ (n : N) (a : Addr), vs = [.ref a, .ref gp, .ref gm] ∧ R.A H n a ∧ R.sz n ≤ 5000 ∧ ∀ v H', Same H H' → S H' (F n) v → Q v H'
abbrev sremade : Stmt := top 2
theorem scremade : FnScope ["body", "parts", "made", "got", "waiting", "part", "are_parts_done", "own", "one"] ["body", "parts", "made"] (defScope sremade) := ⟨rfl, rfl, rfl, by decide +kernel, rfl, by decide +kernel, by decide +kernel⟩
def RemX (R : Tre N) (S : Hp → B → V → Prop) (g : N → List B → B) (F : N → B) (J : Hp → Prop) (H : Hp) (a gp gm fl wl : Addr) (n : N) (m : Nat) (σ : St) (H' : Hp) : Prop :=
  ∃ o5 o6 o7 o8 rs gs es bs, σ = [some (.ref a), some (.ref gp), some (.ref gm), some (.ref fl), some (.ref wl), o5, o6, o7, o8] ∧ Sx H H' ∧ J H' ∧ H' fl = some (.lst gs) ∧ All2 (S H') bs gs ∧ H' wl = some (.lst (List.reverse rs)) ∧ All2 (WtV R H') es rs ∧
  m = rmW R es ∧ bs.length + rmW R es ≤ 2 * R.sz n ∧ rmV R es bs.length ∧ rmX R g F es bs = [F n] ∧ rmQ R F es bs
/-- what stays of what a def leans on -/
structure Jx (J : Hp → Prop) : Prop where
  sm : ∀ {H H' : Hp}, Same H H' → J H → J H'
  mu : ∀ {H : Hp} {a : Addr} {xs : List V} {o : HO}, H a = some (.lst xs) → J H → J (upd H a o)
/-- remade, where what is made of a part may fill tables -/
def spRemX (R : Tre N) (S : Hp → B → V → Prop) (g : N → List B → B) (F : N → B) (J : Hp → Prop) (gp : Addr) : SpL := fun gm kn sl vs H Q _ => ∃ (n : N) (a : Addr), vs = [.ref a, .ref gp, .ref gm] ∧ kn H ∧ J H ∧ R.A H n a ∧ R.sz n ≤ 5000 ∧
  (∀ (H1 : Hp) (m : N) (b q : Addr) (bs : List B) (us : List V) (Q' : VK), Sx H H1 → kn H1 → J H1 → R.A H1 m b → H1 q = some (.tup us) → All2 (S H1) bs us → bs = (R.kids m).map F → (∀ v H2, Sx H1 H2 → J H2 → S H2 (g m bs) v → Q' v H2) → sl [.ref b, .ref q] H1 Q') ∧
  ∀ v H', Sx H H' → J H' → S H' (F n) v → Q v H'
theorem body_remade (R : Tre N) (S : Hp → B → V → Prop) (g : N → List B → B) (Fv : N → B) (hF : ∀ n, Fv n = g n ((R.kids n).map Fv)) (tS : ∀ {H H' : Hp} {b : B} {v : V}, TK H H' → S H b v → S H' b v) {J : Hp → Prop} (jx : Jx J) (T : Txt K mg) {k1 : Nat} {f gp gm f3 : Addr} {gd d3 : FuncData} {x : Str}
    (GKIDS : FnOk P w K mg base CX0 k1 gp gd [x] (spKids R)) (kk : PySem.W.keepIn K (.ref gp) = true) (bb : Binds K gd [x] []) (Glast_taken : FnOk P w K mg base CX0 1 f3 d3 ["got", "many"] spLast) (Rlast_taken : Ref K mg "last_taken" f3 d3 ["got", "many"])
    {kn : Hp → Prop} {sl : List V → Hp → VK → Prop} (kp : ∀ H1 H2, Sx H1 H2 → kn H1 → kn H2) {cdv : Value} {A : Around} {outer : List Env} {s : Shared} {H : Hp} {vs : List V} {Q : VK} {E : XK} (hr : Room (k1 + 1) (A.deeper (PyProof.Rows.envOfC "remade" (defScope sremade) s.heap.objs.size f cdv)))
    (hcall : ∀ {t : TA} {e : Expr} {es : List Expr} {p pos : Pos}, PA (cxOf CX0 P w K mg base ["body", "parts", "made", "got", "waiting", "part", "are_parts_done", "own", "one"] "remade" (defScope sremade) f cdv A outer s H E).nox (e :: es) t →
      starEach (e :: es) (cxOf CX0 P w K mg base ["body", "parts", "made", "got", "waiting", "part", "are_parts_done", "own", "one"] "remade" (defScope sremade) f cdv A outer s H E).nox.env = (false, eval e (cxOf CX0 P w K mg base ["body", "parts", "made", "got", "waiting", "part", "are_parts_done", "own", "one"] "remade" (defScope sremade) f cdv A outer s H E).nox.env) :: starEach es (cxOf CX0 P w K mg base ["body", "parts", "made", "got", "waiting", "part", "are_parts_done", "own", "one"] "remade" (defScope sremade) f cdv A outer s H E).nox.env →
      (backTo pos (starEach es (cxOf CX0 P w K mg base ["body", "parts", "made", "got", "waiting", "part", "are_parts_done", "own", "one"] "remade" (defScope sremade) f cdv A outer s H E).nox.env)).any (·.1) = false →
      PE (cxOf CX0 P w K mg base ["body", "parts", "made", "got", "waiting", "part", "are_parts_done", "own", "one"] "remade" (defScope sremade) f cdv A outer s H E).nox (.Call (.Name "made" p) (e :: es) [] pos) (tCallM 2 gm kn sl t))
    (h : spRemX R S g Fv J gp gm kn sl vs H Q E0) : ∃ t, PSs (cxOf CX0 P w K mg base ["body", "parts", "made", "got", "waiting", "part", "are_parts_done", "own", "one"] "remade" (defScope sremade) f cdv A outer s H E).nox (defBody sremade) t ∧ t { nx := fun _ H' => Q .non H', rt := Q } (start ["body", "parts", "made", "got", "waiting", "part", "are_parts_done", "own", "one"] vs) H := by
  obtain ⟨n, a, rfl, hkn, hJ, hA, hz, hM, q⟩ := h
  refine ⟨_, (pss_cons (ps_set (i := 3) scremade.nd rfl (Or.inl rfl) (pe_lst pa_nil))
    (pss_cons (ps_set (i := 4) scremade.nd rfl (Or.inl rfl) (pe_lst (pa_cons (pe_tup (pa_cons (pv 0) (pa_cons pe_bl pa_nil))) pa_nil)))
    (pss_cons (ps_while PassesOwn.never (pt_truth (pv 4) (by intro _; rfl)) (pss_cons (ps_asg (pe_bm0 PySem.F.plainAttrs_list PySem.F.slot_list_pop PySem.F.type_list_pop mt_pop (pv 4)) (pg_tup rfl (pgs_cons (pg_name (i := 5) scremade.nd rfl (Or.inl rfl)) (pgs_cons (pg_name (i := 6) scremade.nd rfl (Or.inl rfl)) pgs_nil))))
    (pss_cons (ps_set (i := 7) scremade.nd rfl (Or.inl rfl) (pe_callL (i := 1) GKIDS (hr.mono (by omega)) rfl (.inl rfl) kk bb .nil pass0 (pa_cons (pv 5) pa_nil)))
    (pss_one (ps_if (pt_val (pv 6)) (pss_one (ps_expr (pe_bm PySem.F.plainAttrs_list PySem.F.slot_list_append PySem.F.type_list_append mt_append (pv 3) (pa_cons (hcall (pa_cons (pv 5) (pa_cons (pe_call Glast_taken (hr.mono (by omega)) rfl Rlast_taken.m Rlast_taken.k Rlast_taken.b .nil pass0 (pa_cons (pv 3) (pa_cons (pe_callB call_len_seq (by rfl) T.m_len PySem.boot_len (pa_cons (pv 7) pa_nil)) pa_nil))) pa_nil)) (by rfl) (by rfl)) pa_nil)))) (pss_cons (ps_expr (pe_bm PySem.F.plainAttrs_list PySem.F.slot_list_append PySem.F.type_list_append mt_append (pv 4) (pa_cons (pe_tup (pa_cons (pv 5) (pa_cons pe_bl pa_nil))) pa_nil)))
    (pss_one (ps_expr (pe_bm PySem.F.plainAttrs_list PySem.F.slot_list_extend PySem.F.type_list_extend mt_extend (pv 4) (pa_cons (pe_lc (own := [("one", 8)]) (g := gName 8) (by rfl) scremade.nd (pi_tup (pe_revT (pv 7) (po_some (pe_un un_neg pe_int)))) (blkOk_by (own := [("one", 8)]) (N := ["body", "parts", "made", "got", "waiting", "part", "are_parts_done", "own", "one"]) (sc := defScope sremade) (by decide +kernel)) (fun _ _ _ _ _ => (pg_name (i := 8) scremade.nd rfl (Or.inl rfl))) (fun _ _ _ _ _ => pts_nil) (fun _ _ _ _ _ => (pe_tup (pa_cons (pv 8) (pa_cons pe_bl pa_nil))))) pa_nil))))))))))
    (pss_one (ps_ret (pe_bm0 PySem.F.plainAttrs_list PySem.F.slot_list_pop PySem.F.type_list_pop mt_pop (pv 3))))))), ?_⟩
  refine ⟨sz (by show 0 ≤ 100000; decide), fun fl hfl => ?_⟩
  have s0 := same_new hfl (.lst [])
  have f0 : upd H fl (.lst []) fl = some (.lst []) := upd_same
  refine ⟨_, rfl, sz (by show 2 ≤ 100000; decide), fun p0 hp0 => ?_⟩
  have s1 := same_new hp0 (.tup [.ref a, .bl false])
  refine ⟨sz (by show 1 ≤ 100000; decide), fun wl hwl => ?_⟩
  have s2 := same_new hwl (.lst [.ref p0])
  have s12 := s1.trans s2
  have hwf : fl ≠ wl := ne_of_none (s1 _ _ f0) hwl
  have sA := s0.trans s12
  have hpos := R.pos n
  refine ⟨RemX R S g Fv J H a gp gm fl wl n, ⟨_, none, none, none, none, [.ref p0], [], [(n, false)], [], rfl, sx_same sA, jx.sm sA hJ, s12 _ _ f0, trivial, upd_same, ⟨⟨p0, a, rfl, s2 _ _ upd_same, R.tk (tk_same sA) hA⟩, trivial⟩, rfl, ?_, rfl, rfl, trivial⟩, ?_⟩
  · show 0 + (2 * R.sz n + 0) ≤ 2 * R.sz n
    omega
  have hw0 : H wl = none := (s0.trans s1).free hwl
  clear s0 f0 s1 hp0 hwl s2 s12 sA
  rintro m σ H1 ⟨o5, o6, o7, o8, rs, gs, es, bs, rfl, s1, j1, h1, k1, h2, k2, rfl, hm, hv, hx, hq⟩
  refine ⟨_, rfl, _, .inl ⟨_, SqL.of h2, rfl⟩, ?_⟩
  cases rs with
  | nil =>
    cases es with
    | cons _ _ => exact k2.elim
    | nil =>
      have e : bs = [Fv n] := hx
      subst e
      match gs, k1 with
      | [v], ⟨hv1, _⟩ =>
        refine itF rfl ⟨_, rfl, .inl ⟨rfl, _, SqL.of h1⟩, fl, _, v, rfl, rfl, h1, rfl, ?_⟩
        exact q _ _ (sx_mut s1 hfl _) (jx.mu h1 j1) (tS (tk_put h1) hv1)
  | cons r rs =>
    cases es with
    | nil => exact k2.elim
    | cons e1 es =>
      obtain ⟨n1, b1⟩ := e1
      obtain ⟨⟨qa, b, rfl, g1, g2⟩, k3⟩ := k2
      refine itT (by simp) ⟨fun σ' H' => ∃ m', m' < rmW R ((n1, b1) :: es) ∧ RemX R S g Fv J H a gp gm fl wl n m' σ' H', fun _ _ z => z, ?_⟩
      refine ⟨_, rfl, .inl ⟨rfl, _, SqL.of h2⟩, wl, _, .ref qa, rfl, rfl, h2, by simp, ?_⟩
      have eD : ((V.ref qa :: rs).reverse).dropLast = rs.reverse := by rw [List.reverse_cons, List.dropLast_concat]
      rw [eD]
      have tk2 : TK H1 (upd H1 wl (.lst rs.reverse)) := tk_put h2
      have s2 : Sx H (upd H1 wl (.lst rs.reverse)) := sx_mut s1 hw0 _
      have j2 : J (upd H1 wl (.lst rs.reverse)) := jx.mu h2 j1
      have w2 : upd H1 wl (.lst rs.reverse) wl = some (.lst rs.reverse) := upd_same
      have f2 : upd H1 wl (.lst rs.reverse) fl = some (.lst gs) := by
        rw [upd_ne hwf]
        exact h1
      have k4 := k1.imp fun _ _ z => tS tk2 z
      have k5 := k3.imp fun _ _ z => WtV.tk tk2 z
      have g4 := tk2 _ _ g1
      have g6 := R.tk tk2 g2
      clear tk2
      generalize upd H1 wl (.lst rs.reverse) = H2 at s2 j2 w2 f2 k4 k5 g4 g6
      refine ⟨qa, _, rfl, SqT.of g4, rfl, _, _, rfl, _, _, rfl, rfl, ?_⟩
      refine ⟨rfl, _, rfl, n1, b, rfl, g6, fun pp H3 us s3 h3 k6 => ?_⟩
      have hus := k6.len
      have sH3 := s2.trans (sx_same s3)
      have j3 := jx.sm s3 j2
      have w3 := s3 _ _ w2
      have f3 := s3 _ _ f2
      have A3 := R.tk (tk_same s3) g6
      have k7 := k4.imp fun _ _ z => tS (tk_same s3) z
      have k8 := k5.imp fun _ _ z => WtV.tk (tk_same s3) z
      have hgs := k7.len
      have hrs := k8.len
      have hel := rmW_len R es
      have hnk := R.len_szs (R.kids n1)
      have hsz : R.sz n1 = 1 + R.szs (R.kids n1) := R.szk n1
      refine ⟨_, rfl, _, rfl, ?_⟩
      cases b1 with
      | true =>
        obtain ⟨hv1, hv2⟩ : (R.kids n1).length ≤ bs.length ∧ rmV R es (bs.length - (R.kids n1).length + 1) := hv
        have hW : rmW R ((n1, true) :: es) = 1 + rmW R es := rfl
        obtain ⟨hq1, hq2⟩ : bs.drop (bs.length - (R.kids n1).length) = (R.kids n1).map Fv ∧ rmQ R Fv es (bs.take (bs.length - (R.kids n1).length) ++ [Fv n1]) := hq
        have eG : gs.length - us.length = bs.length - (R.kids n1).length := by omega
        rw [← eG] at hq1 hq2
        refine itT rfl ⟨_, rfl, .inl ⟨rfl, _, SqL.of f3⟩, ⟨rfl, kp _ _ sH3 hkn⟩, _, rfl, _, rfl, _, rfl, pp, _, rfl, .inr (SqT.of h3), fl, gs, us.length, rfl, f3, by omega, fun H4 v4 s4 h4 => ?_⟩
        have f4 := s4 _ _ f3
        have tk4 : TK H4 (upd H4 fl (.lst (gs.take (gs.length - us.length)))) := tk_put f4
        have k9 := ((k7.drop (gs.length - us.length)).imp fun _ _ z => tS (tk_same s4) z).imp fun _ _ z => tS tk4 z
        have sM := sx_mut (sH3.trans (sx_same s4)) hfl (.lst (gs.take (gs.length - us.length)))
        have jM := jx.mu (o := .lst (gs.take (gs.length - us.length))) f4 (jx.sm s4 j3)
        refine ⟨kp _ _ sM hkn, hM _ n1 b v4 (bs.drop (gs.length - us.length)) (gs.drop (gs.length - us.length)) _ sM (kp _ _ sM hkn) jM (R.tk ((tk_same s4).trans tk4) A3) (tk4 _ _ h4) k9 hq1 fun v5 H5 s5 j5 hv5 => ?_⟩
        have f5 := s5.l (upd_same (H := H4) (a := fl) (o := .lst (gs.take (gs.length - us.length))))
        refine ⟨fl, _, _, rfl, rfl, f5, Nat.lt_of_le_of_lt (m := 20000) (by rw [List.length_take]; omega) (by decide), ?_⟩
        have tk6 : TK H5 (upd H5 fl (.lst (gs.take (gs.length - us.length) ++ [v5]))) := tk_put f5
        have tkA : TK H3 (upd H5 fl (.lst (gs.take (gs.length - us.length) ++ [v5]))) := (tk_same s4).trans (tk4.trans (s5.tk.trans tk6))
        refine ⟨rmW R es, by rw [hW]; omega, _, _, _, _, rs, gs.take (gs.length - us.length) ++ [v5], es, bs.take (gs.length - us.length) ++ [g n1 (bs.drop (gs.length - us.length))], rfl, ?_, jx.mu f5 j5, upd_same, ?_, ?_, k8.imp fun _ _ z => WtV.tk tkA z, rfl, ?_, ?_, ?_, ?_⟩
        · exact sx_mut (sM.trans s5) hfl _
        · exact ((k7.take _).imp fun _ _ z => tS tkA z).app ⟨tS tk6 hv5, trivial⟩
        · rw [upd_ne (Ne.symm hwf)]
          refine s5.l ?_
          rw [upd_ne (Ne.symm hwf)]
          exact s4 _ _ w3
        · rw [List.length_append, List.length_take, List.length_singleton]
          rw [hW] at hm
          omega
        · rw [List.length_append, List.length_take, List.length_singleton]
          have e : min (gs.length - us.length) bs.length + 1 = bs.length - (R.kids n1).length + 1 := by omega
          rw [e]
          exact hv2
        · have e : gs.length - us.length = bs.length - (R.kids n1).length := by omega
          rw [e]
          exact hx
        · rw [hq1, ← hF]
          exact hq2
      | false =>
        have hW : rmW R ((n1, false) :: es) = 2 * R.sz n1 + rmW R es := rfl
        refine itF rfl ⟨_, rfl, .inl ⟨rfl, _, SqL.of w3⟩, _, rfl, sz (by show 2 ≤ 100000; decide), fun p3 hp3 => ?_⟩
        have t3 := same_new hp3 (.tup [.ref b, .bl true])
        have w4 := t3 _ _ w3
        refine ⟨wl, _, _, rfl, rfl, w4, Nat.lt_of_le_of_lt (m := 20000) (by rw [List.length_reverse]; omega) (by decide), ?_⟩
        have tk4 := (tk_same t3).trans (tk_put (o := .lst (rs.reverse ++ [.ref p3])) w4)
        have s4 : Sx H (upd (upd H3 p3 (.tup [.ref b, .bl true])) wl (.lst (rs.reverse ++ [.ref p3]))) := sx_mut (sH3.trans (sx_same t3)) hw0 _
        have j4 : J (upd (upd H3 p3 (.tup [.ref b, .bl true])) wl (.lst (rs.reverse ++ [.ref p3]))) := jx.mu w4 (jx.sm t3 j3)
        have w5 : upd (upd H3 p3 (.tup [.ref b, .bl true])) wl (.lst (rs.reverse ++ [.ref p3])) wl = some (.lst (rs.reverse ++ [.ref p3])) := upd_same
        have f5 : upd (upd H3 p3 (.tup [.ref b, .bl true])) wl (.lst (rs.reverse ++ [.ref p3])) fl = some (.lst gs) := by
          rw [upd_ne hwf]
          exact t3 _ _ f3
        have g5 : upd (upd H3 p3 (.tup [.ref b, .bl true])) wl (.lst (rs.reverse ++ [.ref p3])) p3 = some (.tup [.ref b, .bl true]) := tk_put w4 _ _ upd_same
        have A5 := R.tk tk4 A3
        have k9 := k7.imp fun _ _ z => tS tk4 z
        have k10 := k8.imp fun _ _ z => WtV.tk tk4 z
        have k11 := k6.imp fun _ _ z => Tre.V.tk tk4 z
        have h5 := tk4 _ _ h3
        clear tk4
        generalize upd (upd H3 p3 (.tup [.ref b, .bl true])) wl (.lst (rs.reverse ++ [.ref p3])) = H4 at s4 j4 w5 f5 g5 A5 k9 k10 k11 h5
        refine ⟨_, rfl, .inl ⟨rfl, _, SqL.of w5⟩, _, rfl, 1, rfl, -1, rfl, rfl, pp, _, rfl, SqT.of h5, fun p6 hp6 => ?_⟩
        have s6 := same_new hp6 (.tup us.reverse)
        have h6 : upd H4 p6 (.tup us.reverse) p6 = some (.tup us.reverse) := upd_same
        have k12 := (k11.imp fun _ _ z => Tre.V.tk (tk_same s6) z).rev
        generalize upd H4 p6 (.tup us.reverse) = H5 at s6 h6 k12
        refine ⟨p6, rfl, ⟨_, SqT.of h6⟩, fun D hD => lc_tup (K := K) (a := p6) (xs := us.reverse) (fun i H' => Same H5 H' ∧ ∃ acc, H' D = some (.lst acc) ∧ All2 (WtV R H') (kidsF ((R.kids n1).reverse.take i)) acc) ⟨same_new hD _, [], upd_same, by rw [List.take_zero]; trivial⟩ ?_ ?_ ?_⟩
        · rintro i H' _ ⟨z, _⟩
          exact SqT.of (z _ _ h6)
        · rintro i x H6 hx6 ⟨s7, acc, h7, k13⟩
          obtain ⟨nk, hnk6, bk, rfl, hbk⟩ := k12.get hx6
          obtain ⟨hj, hj2⟩ := List.getElem?_eq_some_iff.mp hnk6
          have hle := k13.len
          unfold kidsF at hle
          rw [List.length_map, List.length_take] at hle
          rw [List.length_reverse] at hj
          refine ⟨rfl, ?_⟩
          dsimp only [tYes]
          refine iteT ⟨_, rfl, sz (by show 2 ≤ 100000; decide), fun p8 hp8 => ?_⟩
          have s8 := same_new hp8 (.tup [.ref bk, .bl false])
          have h8 := s8 _ _ h7
          have tk8 := (tk_same s8).trans (tk_put (o := .lst (acc ++ [.ref p8])) h8)
          refine ⟨acc, h8, Nat.lt_of_le_of_lt (m := 20000) (by omega) (by decide), same_mut (s7.trans s8) hD, _, upd_same, ?_⟩
          have eT : kidsF ((R.kids n1).reverse.take (i + 1)) = kidsF ((R.kids n1).reverse.take i) ++ [(nk, false)] := by
            unfold kidsF
            rw [List.take_succ_eq_append_getElem (by rw [List.length_reverse]; exact hj), List.map_append, hj2]
            rfl
          rw [eT]
          exact (k13.imp fun _ _ z => WtV.tk tk8 z).app ⟨⟨p8, bk, rfl, tk_put (o := .lst (acc ++ [.ref p8])) h8 _ _ upd_same, R.tk tk8 (R.tk (tk_same s7) hbk)⟩, trivial⟩
        · rintro H6 ⟨s7, acc, h7, k13⟩
          have eR : us.reverse.length = (R.kids n1).reverse.length := by rw [List.length_reverse, List.length_reverse]; exact hus
          rw [eR, List.take_length] at k13
          have hac := k13.len
          unfold kidsF at hac
          rw [List.length_map, List.length_reverse] at hac
          have s67 := s6.trans s7
          have w7 := s67 _ _ w5
          refine ⟨wl, D, _, _, rfl, rfl, w7, h7, sz (by rw [List.length_append, List.length_reverse, List.length_singleton]; omega), ?_⟩
          have tk9 := tk_put (o := .lst (rs.reverse ++ [.ref p3] ++ acc)) w7
          have tkB := (tk_same s67).trans tk9
          refine ⟨rmW R (kidsF (R.kids n1) ++ (n1, true) :: es), ?_, _, _, _, _, acc.reverse ++ .ref p3 :: rs, gs, kidsF (R.kids n1) ++ (n1, true) :: es, bs, rfl, sx_mut (s4.trans (sx_same s67)) hw0 _, jx.mu w7 (jx.sm s67 j4), ?_, k9.imp fun _ _ z => tS tkB z, ?_, ?_, rfl, ?_, rmV_open R hv, ?_, rmQ_open R Fv hq⟩
          · rw [rmW_kids, hW]
            show 2 * R.szs (R.kids n1) + (1 + rmW R es) < _
            omega
          · rw [upd_ne hwf]
            exact s67 _ _ f5
          · rw [upd_same, List.reverse_append, List.reverse_cons, List.reverse_reverse]
          · refine All2.app ?_ ⟨⟨p3, b, rfl, tkB _ _ g5, R.tk tkB A5⟩, k10.imp fun _ _ z => WtV.tk tkB z⟩
            have z := k13.rev
            unfold kidsF at z ⊢
            rw [← List.map_reverse, List.reverse_reverse] at z
            exact z.imp fun _ _ y => WtV.tk tk9 y
          · rw [rmW_kids]
            rw [hW] at hm
            show bs.length + (2 * R.szs (R.kids n1) + (1 + rmW R es)) ≤ _
            omega
          · rw [rmX_open R g Fv hF]
            exact hx
/-- remade, a lambda making each thing -/
theorem okL_remade (R : Tre N) (S : Hp → B → V → Prop) (g : N → List B → B) (Fv : N → B) (hF : ∀ n, Fv n = g n ((R.kids n).map Fv)) (tS : ∀ {H H' : Hp} {b : B} {v : V}, TK H H' → S H b v → S H' b v) {J : Hp → Prop} (jx : Jx J) (T : Txt K mg) {kl k1 : Nat} {f gp f3 : Addr} {fd gd d3 : FuncData} {x : Str} (F : Fun K "remade" "remade" sremade f fd)
    (GKIDS : FnOk P w K mg base CX0 k1 gp gd [x] (spKids R)) (kk : PySem.W.keepIn K (.ref gp) = true) (bb : Binds K gd [x] []) (Glast_taken : FnOk P w K mg base CX0 1 f3 d3 ["got", "many"] spLast) (Rlast_taken : Ref K mg "last_taken" f3 d3 ["got", "many"]) :
    FnL P w K mg base kl (k1 + 2) f fd ["body", "parts", "made"] (spRemX R S g Fv J gp) := by
  refine okL F scremade (fun fl kn sl vs H Q E h => ?_) (fun cdv A outer s H vs Q fl kn sl hr L h => ?_)
  · obtain ⟨n, a, rfl, _⟩ := h
    rfl
  exact body_remade R S g Fv hF tS jx T GKIDS kk bb Glast_taken Rlast_taken L.kp (hr.mono (by omega)) (fun ha he hp => pe_callM L (hr.mono (by omega)) rfl (.inl rfl) ha (by decide) (by decide) he hp) h
/-- what a def promises that makes one thing, where tables may be filled -/
def spMadeX (R : Tre N) (S : Hp → B → V → Prop) (g : N → List B → B) (F : N → B) (J : Hp → Prop) : Sp := fun vs H Q _ => ∃ (n : N) (a q : Addr) (bs : List B) (us : List V), vs = [.ref a, .ref q] ∧ J H ∧ R.A H n a ∧ H q = some (.tup us) ∧ All2 (S H) bs us ∧ bs = (R.kids n).map F ∧
  ∀ v H', Sx H H' → J H' → S H' (g n bs) v → Q v H'
def spRemJ (R : Tre N) (S : Hp → B → V → Prop) (F : N → B) (J : Hp → Prop) (gp gm : Addr) : Sp := fun vs H Q _ => ∃ (n : N) (a : Addr), vs = [.ref a, .ref gp, .ref gm] ∧ J H ∧ R.A H n a ∧ R.sz n ≤ 5000 ∧ ∀ v H', Sx H H' → J H' → S H' (F n) v → Q v H'
/-- a def in a slot called, its promise told like a lambda's -/
theorem pe_callM0 {X : Cx} {k i : Nat} {f : Addr} {fd : FuncData} {ps : List Str} {sp : Sp} {x : Str} {p pos : Pos} {e : Expr} {es : List Expr} {t : TA} (F : FnOk X.prog X.w X.K X.mg X.base CX0 k f fd ps sp) (hr : Room k X.A) (hN : X.N[i]? = some x) (hv : Vis X.env.scope x) (hk : PySem.W.keepIn X.K (.ref f) = true) (hb : Binds X.K fd ps []) (ha : PA X (e :: es) t)
    (hdb : (x == ("__debug__" : Str)) = false) (hcd : (x == ("__classdict__" : Str)) = false) (he : starEach (e :: es) X.env = (false, eval e X.env) :: starEach es X.env) (hpl : (backTo pos (starEach es X.env)).any (·.1) = false) :
    PE X (.Call (.Name x p) (e :: es) [] pos) (tCallM i f (fun _ => True) (fun vs H Q => sp vs H Q E0) t) := by
  refine ⟨fun pins s σ H Q I h => ?_⟩
  obtain ⟨⟨hs, _⟩, ht⟩ := h
  refine wpAny_Call_Name_kw (thn ((pe_var (pos := p) hN hv hdb hcd).run pins s σ H (fun v H1 => v = .ref f ∧ H1 = H) I ⟨.ref f, hs, rfl, rfl⟩) fun u s1 z => ?_)
  obtain ⟨v, H1, I1, r1, rfl, rfl⟩ := z
  obtain rfl : u = Value.ref f := r1
  refine PySem.W.callWith_K (h₀ := X.base) I.ok.mod.kin hk (thn (ha.run pos pins s1 σ _ _ I1 ht) fun us s2 z => ?_) he hpl
  obtain ⟨vs, H2, I2, r, _, q⟩ := z
  refine ⟨I2.kIn, run_fn (dvs := []) F hr hb .nil pass0 I2 r ?_⟩
  rw [List.append_nil]
  exact q
/-- remade, a def making each thing -/
theorem okJ_remade (R : Tre N) (S : Hp → B → V → Prop) (g : N → List B → B) (Fv : N → B) (hF : ∀ n, Fv n = g n ((R.kids n).map Fv)) (tS : ∀ {H H' : Hp} {b : B} {v : V}, TK H H' → S H b v → S H' b v) {J : Hp → Prop} (jx : Jx J) (T : Txt K mg) {k1 k2 : Nat} {f gp gm f3 : Addr} {fd gd md d3 : FuncData} {x y z : Str} (F : Fun K "remade" "remade" sremade f fd)
    (GKIDS : FnOk P w K mg base CX0 k1 gp gd [x] (spKids R)) (kk : PySem.W.keepIn K (.ref gp) = true) (bb : Binds K gd [x] []) (Glast_taken : FnOk P w K mg base CX0 1 f3 d3 ["got", "many"] spLast) (Rlast_taken : Ref K mg "last_taken" f3 d3 ["got", "many"])
    (GMADE : FnOk P w K mg base CX0 k2 gm md [y, z] (spMadeX R S g Fv J)) (kk2 : PySem.W.keepIn K (.ref gm) = true) (bb2 : Binds K md [y, z] []) : FnOk P w K mg base CX0 (k1 + k2 + 2) f fd ["body", "parts", "made"] (spRemJ R S Fv J gp gm) := by
  refine F.ok scremade (fun vs H Q E h => ?_) (fun cdv A outer s H vs Q E hr h => ?_)
  · obtain ⟨n, a, rfl, _⟩ := h
    rfl
  obtain ⟨n, a, rfl, hJ, hA, hz, q⟩ := h
  exact body_remade R S g Fv hF tS jx T GKIDS kk bb Glast_taken Rlast_taken (kn := fun _ => True) (sl := fun vs H Q => spMadeX R S g Fv J vs H Q E0) (fun _ _ _ _ => trivial) (hr.mono (by omega)) (fun ha he hp => pe_callM0 (i := 2) GMADE (hr.mono (by omega)) rfl (.inl rfl) kk2 bb2 ha (by decide) (by decide) he hp)
    ⟨n, a, rfl, trivial, hJ, hA, hz, fun H1 m b q bs us Q' s1 _ j1 a1 h1 k1 l1 q1 => ⟨m, b, q, bs, us, rfl, j1, a1, h1, k1, l1, q1⟩, q⟩
end
end KB

namespace KB
open PySem PySem.Spec PyProof.Rows L2 LamX NdefX

/-! ### a def whose code object is known -/
structure FunC (K : PySem.W.Frag) (x qual : Str) (st : Stmt) (f : Addr) (fd : FuncData) (c : Addr) : Prop where
  ex : ∃ (oc : Value) (od : Option Addr) (kV doc pm : Value) (an : Option Addr) (ct : Value) (osl : Array (Option Value)),
    fd = PySem.W.fnOf x qual (defArgs st) (defBody st) (defScope st) .none kV doc pm an (.ref c) ct ∧ K.lookup f = some ⟨oc, od, .func fd, osl⟩ ∧ PySem.W.codeIn K (.ref c) qual = true
theorem funC_mk {K : PySem.W.Frag} {x qual : Str} {st : Stmt} {f c : Addr} {oc : Value} {od an : Option Addr} {osl : Array (Option Value)} {kV doc pm ct : Value} (l : K.lookup f = some ⟨oc, od, .func (PySem.W.fnOf x qual (defArgs st) (defBody st) (defScope st) .none kV doc pm an (.ref c) ct), osl⟩) (h : PySem.W.codeIn K (.ref c) qual = true) :
    FunC K x qual st f (PySem.W.fnOf x qual (defArgs st) (defBody st) (defScope st) .none kV doc pm an (.ref c) ct) c := ⟨⟨oc, od, kV, doc, pm, an, ct, osl, rfl, l, h⟩⟩
section
variable {P : Program} {w : World} {K : PySem.W.Frag} {mg : Str → Option Value} {base : Heap}
theorem okC {x qual : Str} {st : Stmt} {f c : Addr} {fd : FuncData} {N ps : List Str} {k : Nat} {sp : Sp} (F : FunC K x qual st f fd c) (S : FnScope N ps (defScope st)) (len : ∀ vs H Q E, sp vs H Q E → vs.length = ps.length)
    (hb : ∀ (A : Around) (outer : List Env) (s : Shared) (H : Hp) (vs : List V) (Q : VK) (E : XK), Room k (A.deeper (envOfC qual (defScope st) s.heap.objs.size f (.ref c))) → sp vs H Q E →
      ∃ t, PSs (cxOf CX0 P w K mg base N qual (defScope st) f (.ref c) A outer s H E).nox (defBody st) t ∧ t { nx := fun _ H' => Q .non H', rt := Q } (start N vs) H) : FnOk P w K mg base CX0 (k + 1) f fd ps sp := by
  obtain ⟨oc, od, kV, doc, pm, an, ct, osl, rfl, look, code⟩ := F.ex
  refine fn_of look code S len fun A outer s H vs Q E room want => ?_
  obtain ⟨t, ht, hq⟩ := hb A outer s H vs Q E room want
  exact ⟨t, ht.nox, hq⟩
end
/-- g(e, e2, lambda ..) -/
theorem pe_callLam {X : Cx} {kl k : Nat} {g : Addr} {gd : FuncData} {gps : List Str} {sp : SpL} {x : Str} {p pos lpos : Pos} {e e2 : Expr} {t1 t2 : TE} {pr : Arguments} {bd : Expr} {sc : Scope} {T : List (Addr × Str)} {c P : Addr} {N ps fr : List Str} {js : List Nat} {tb : TE}
    (TB : TabB X.base X.mg c P) (hcode : X.env.code = .ref c) (hm : (P, X.env.qual ++ "<lambda>") ∈ T) (hu : ∀ p ∈ T, p.1 = P → p.2 = X.env.qual ++ "<lambda>")
    (G : FnL X.prog X.w X.K X.mg X.base (kl + 1) k g gd gps sp) (hr : Room (k + (kl + 1)) X.A) (hg : Gl X x) (hmg : X.mg x = some (.ref g)) (hk : PySem.W.keepIn X.K (.ref g) = true) (hbg : Binds X.K gd gps []) (h1 : PE X e t1) (h2 : PE X e2 t2)
    (S : NScope N ps fr sc) (hfree : ∀ y ∈ sc.names, y.2 = .free → X.env.scope.names.lookup y.1 = some .cell ∨ X.env.scope.names.lookup y.1 = some .free) (hfr : ∀ y ∈ fr, (y, NameKind.free) ∈ sc.names) (hjs : js.map (fun j => X.N[j]?) = fr.map some)
    (hbind : ∀ (q : Str) (cl : List (Str × Addr)) (c' : Addr) (pm ctv : Value) (us : List Value), us.length = ps.length → bindArgs (PySem.W.kla_fn "<lambda>" q pr bd sc cl pm (.ref c') ctv) ⟨us, []⟩ = pure (ps.zip us))
    (hb : ∀ (q : Str) (cl : List (Str × Addr)) (f c' : Addr) (A : Around) (outer : List Env) (s1 : Shared) (H1 : Hp), Room kl (A.deeper (envF ⟨"<lambda>", q, pr, [], sc, cl, c'⟩ f s1.heap.objs.size)) →
      PE (ncx CX0 X.prog X.w X.K X.mg X.base N ⟨"<lambda>", q, pr, [], sc, cl, c'⟩ f A outer s1 H1 E0) bd tb)
    (hdef : defaultsOf pr X.env = ([], []) := by rfl) (hdb : (x == ("__debug__" : Str)) = false := by decide)
    (he : starEach [e, e2, .Lambda pr bd sc lpos] X.env = (false, eval e X.env) :: starEach [e2, .Lambda pr bd sc lpos] X.env := by rfl) (hpl : (backTo pos (starEach [e2, .Lambda pr bd sc lpos] X.env)).any (·.1) = false := by rfl)
    (hs2 : starEach [e2, .Lambda pr bd sc lpos] X.env = (false, eval e2 X.env) :: starEach [.Lambda pr bd sc lpos] X.env := by rfl) (hs3 : starEach [.Lambda pr bd sc lpos] X.env = (false, eval (.Lambda pr bd sc lpos) X.env) :: starEach [] X.env := by rfl) :
    PE X (.Call (.Name x p) [e, e2, .Lambda pr bd sc lpos] [] pos) (tCallLm N ps.length js tb (fun c' => ⟨X.env.qual ++ "<lambda>", pr, bd, sc, cloFrom X.env.cells sc.names [], c'⟩) sp (tCons t1 (tCons t2 (tCons (tLambda T fun c' => ⟨X.env.qual ++ "<lambda>", pr, bd, sc, cloFrom X.env.cells sc.names [], c'⟩) tNil)))) :=
  pe_callLm G hr hg hmg hk hbg (pa_cons h1 (pa_cons h2 (pa_cons (pe_lambda TB hcode hm hu hdef hfree) pa_nil hs3) hs2) he) (fun _ => S) (fun ok c' => Caps.made ok hfree hfr hjs) (fun c' pm ctv us hl => hbind _ _ c' pm ctv us hl) (fun f c' A outer s1 H1 room => hb _ _ f c' A outer s1 H1 room) hdb he hpl
end KB

namespace KB
open PySem L2 HT LamX NdefX

/-! ### slim parts -/
def rebS : Pt → List Pt → Pt
  | .tell x t _, [p] => .tell x t p
  | .lett x t _, [p] => .lett x t p
  | .iff t _ _, [p, q] => .iff t p q
  | .post j x _ _, [p, q] => .post j x p q
  | p, _ => p
theorem rebS_at {H : Hp} {p : Pt} {a : Addr} {ps : List Pt} {vs : List V} (hA : PAt H p a) (hl : ps.length = (restP p).length) (h : All2 (TrP.V H) ps vs) : ∃ xs, H a = some (.tup xs) ∧ xs.length ≤ 5 ∧ vs.length ≤ xs.length ∧
    ∀ {H' : Hp} {r : Addr}, TK H H' → H' r = some (.tup (xs.take (xs.length - vs.length) ++ vs)) → PAt H' (rebS p ps) r := by
  cases p with
  | give j t =>
    obtain ⟨b, h1, h2⟩ := hA
    match ps, vs, hl, h with
    | [], [], _, _ => exact ⟨_, h1, by simp, by simp, fun tk hr => ⟨b, hr, h2.tk tk⟩⟩
  | ask f ts j =>
    obtain ⟨b, us, h1, h2, h3⟩ := hA
    match ps, vs, hl, h with
    | [], [], _, _ => exact ⟨_, h1, by simp, by simp, fun tk hr => ⟨b, us, hr, tk _ _ h2, h3.imp fun _ _ z => z.tk tk⟩⟩
  | tell x t p =>
    obtain ⟨b, c, h1, h2, h3⟩ := hA
    match ps, vs, hl, h with
    | [_], [_], _, ⟨⟨d, rfl, hd⟩, _⟩ => exact ⟨_, h1, by simp, by simp, fun tk hr => ⟨b, d, hr, h2.tk tk, PAt.tk tk hd⟩⟩
  | lett x t p =>
    obtain ⟨b, c, h1, h2, h3⟩ := hA
    match ps, vs, hl, h with
    | [_], [_], _, ⟨⟨d, rfl, hd⟩, _⟩ => exact ⟨_, h1, by simp, by simp, fun tk hr => ⟨b, d, hr, h2.tk tk, PAt.tk tk hd⟩⟩
  | iff t p q =>
    obtain ⟨b, c, d, h1, h2, h3, h4⟩ := hA
    match ps, vs, hl, h with
    | [_, _], [_, _], _, h' =>
      obtain ⟨⟨d1, rfl, hd1⟩, ⟨d2, rfl, hd2⟩, _⟩ := h'
      exact ⟨_, h1, by simp, by simp, fun tk hr => ⟨b, d1, d2, hr, h2.tk tk, PAt.tk tk hd1, PAt.tk tk hd2⟩⟩
  | post j x p q =>
    obtain ⟨c, d, h1, h2, h3⟩ := hA
    match ps, vs, hl, h with
    | [_, _], [_, _], _, h' =>
      obtain ⟨⟨d1, rfl, hd1⟩, ⟨d2, rfl, hd2⟩, _⟩ := h'
      exact ⟨_, h1, by simp, by simp, fun tk hr => ⟨d1, d2, hr, PAt.tk tk hd1, PAt.tk tk hd2⟩⟩
def hnW (j k i : Str) : Str := if i = j then k else i
def renP (j k : Str) : Pt → Pt
  | .give i t => .give (hnW j k i) t
  | .ask f ts i => .ask f ts (hnW j k i)
  | .tell x t p => .tell x t (renP j k p)
  | .lett x t p => .lett x t (renP j k p)
  | .iff t p q => .iff t (renP j k p) (renP j k q)
  | .post i x p q => .post i x (renP j k p) (renP j k q)
def hand1 (j k : Str) : Pt → List Pt → Pt
  | .give i t, _ => .give (hnW j k i) t
  | .ask f ts i, _ => .ask f ts (hnW j k i)
  | p, ps => rebS p ps
theorem renP_eq (j k : Str) : ∀ p : Pt, renP j k p = hand1 j k p ((TrP.kids p).map (renP j k))
  | .give _ _ => rfl
  | .ask _ _ _ => rfl
  | .tell _ _ _ => rfl
  | .lett _ _ _ => rfl
  | .iff _ _ _ => rfl
  | .post _ _ _ _ => rfl
def slim1 : Pt → Pt
  | .post j x (.give k t) q => if passed (.give k t) x = true then renP j k q else if handed j q = true then .post j x (.give k t) q else q
  | .post j x p q => if handed j q = true then .post j x p q else q
  | p => p
def slimP : Pt → Pt
  | .give j t => .give j t
  | .ask f ts j => .ask f ts j
  | .tell x t p => .tell x t (slimP p)
  | .lett x t p => .lett x t (slimP p)
  | .iff t p q => .iff t (slimP p) (slimP q)
  | .post j x p q => slim1 (.post j x (slimP p) (slimP q))
def slimE (e : TEr) : TEr := (e.1, e.2.1, slimP e.2.2)
theorem slim1_post (j x : Str) (p q : Pt) : slim1 (.post j x p q) = q ∨ (∃ k, slim1 (.post j x p q) = renP j k q ∧ ∃ t, p = .give k t) ∨ slim1 (.post j x p q) = .post j x p q := by
  cases p with
  | give k t =>
    show (if passed (.give k t) x = true then renP j k q else if handed j q = true then .post j x (.give k t) q else q) = q ∨ (∃ k', (if passed (.give k t) x = true then renP j k q else if handed j q = true then .post j x (.give k t) q else q) = renP j k' q ∧ _) ∨ _
    split
    · exact .inr (.inl ⟨k, rfl, t, rfl⟩)
    · split
      · exact .inr (.inr (by
          show (if passed (.give k t) x = true then renP j k q else if handed j q = true then Pt.post j x (.give k t) q else q) = _
          rename_i h1 h2
          rw [if_neg h1, if_pos h2]))
      · exact .inl rfl
  | _ =>
    show (if handed j q = true then _ else q) = q ∨ _ ∨ (if handed j q = true then _ else q) = _
    split
    · exact .inr (.inr rfl)
    · exact .inl rfl
/-! ### their measures -/
theorem ncnt_ren (j k : Str) : ∀ p : Pt, ncnt (renP j k p) = ncnt p
  | .give _ _ => rfl
  | .ask _ _ _ => rfl
  | .tell x t p => congrArg (1 + cnt t + ·) (ncnt_ren j k p)
  | .lett x t p => congrArg (1 + cnt t + ·) (ncnt_ren j k p)
  | .iff t p q => by
    show 1 + cnt t + ncnt (renP j k p) + ncnt (renP j k q) = 1 + cnt t + ncnt p + ncnt q
    rw [ncnt_ren j k p, ncnt_ren j k q]
  | .post i x p q => by
    show 1 + ncnt (renP j k p) + ncnt (renP j k q) = 1 + ncnt p + ncnt q
    rw [ncnt_ren j k p, ncnt_ren j k q]
theorem hn_ok {j k i : Str} (hk : PySem.PyData.strOk k = true) (hi : PySem.PyData.strOk i = true) : PySem.PyData.strOk (hnW j k i) = true := by
  unfold hnW
  split
  · exact hk
  · exact hi
theorem kP_ren {j k : Str} (hk : PySem.PyData.strOk k = true) : ∀ {p : Pt}, kP p → kP (renP j k p)
  | .give _ _, h => ⟨hn_ok hk h.1, h.2⟩
  | .ask _ _ _, h => ⟨hn_ok hk h.1, h.2⟩
  | .tell x t p, h => ⟨h.1, h.2.1, kP_ren hk h.2.2⟩
  | .lett x t p, h => ⟨h.1, h.2.1, kP_ren hk h.2.2⟩
  | .iff t p q, h => ⟨h.1, kP_ren hk h.2.1, kP_ren hk h.2.2⟩
  | .post i x p q, h => ⟨h.1, h.2.1, kP_ren hk h.2.2.1, kP_ren hk h.2.2.2⟩
theorem slim1_le {j x : Str} {p q : Pt} : ncnt (slim1 (.post j x p q)) ≤ ncnt (.post j x p q) := by
  have e : ncnt (.post j x p q) = 1 + ncnt p + ncnt q := rfl
  rcases slim1_post j x p q with h | ⟨k, h, _⟩ | h
  · rw [h, e]; omega
  · rw [h, e, ncnt_ren]; omega
  · rw [h]; exact Nat.le_refl _
theorem slim1_kP {j x : Str} {p q : Pt} (h : kP (.post j x p q)) : kP (slim1 (.post j x p q)) := by
  rcases slim1_post j x p q with e | ⟨k, e, t, rfl⟩ | e
  · rw [e]; exact h.2.2.2
  · rw [e]; exact kP_ren h.2.2.1.1 h.2.2.2
  · rw [e]; exact h
theorem slim_le : ∀ p : Pt, ncnt (slimP p) ≤ ncnt p
  | .give _ _ => Nat.le_refl _
  | .ask _ _ _ => Nat.le_refl _
  | .tell x t p => Nat.add_le_add_left (slim_le p) _
  | .lett x t p => Nat.add_le_add_left (slim_le p) _
  | .iff t p q => by
    have h1 := slim_le p
    have h2 := slim_le q
    show 1 + cnt t + ncnt (slimP p) + ncnt (slimP q) ≤ 1 + cnt t + ncnt p + ncnt q
    omega
  | .post j x p q => by
    have h1 := slim_le p
    have h2 := slim_le q
    refine Nat.le_trans slim1_le ?_
    show 1 + ncnt (slimP p) + ncnt (slimP q) ≤ 1 + ncnt p + ncnt q
    omega
theorem kP_slim : ∀ {p : Pt}, kP p → kP (slimP p)
  | .give _ _, h => h
  | .ask _ _ _, h => h
  | .tell x t p, h => ⟨h.1, h.2.1, kP_slim h.2.2⟩
  | .lett x t p, h => ⟨h.1, h.2.1, kP_slim h.2.2⟩
  | .iff t p q, h => ⟨h.1, kP_slim h.2.1, kP_slim h.2.2⟩
  | .post j x p q, h => slim1_kP ⟨h.1, h.2.1, kP_slim h.2.2.1, kP_slim h.2.2.2⟩
def slimG (p : Pt) (ps : List Pt) : Pt := slim1 (rebS p ps)
theorem slimP_eq : ∀ p : Pt, slimP p = slimG p ((TrP.kids p).map slimP)
  | .give _ _ => rfl
  | .ask _ _ _ => rfl
  | .tell _ _ _ => rfl
  | .lett _ _ _ => rfl
  | .iff _ _ _ => rfl
  | .post _ _ _ _ => rfl
theorem rebS_slim_kP {p : Pt} (h : kP p) : kP (rebS p ((TrP.kids p).map slimP)) := by
  cases p with
  | give _ _ => exact h
  | ask _ _ _ => exact h
  | tell x t p => exact ⟨h.1, h.2.1, kP_slim h.2.2⟩
  | lett x t p => exact ⟨h.1, h.2.1, kP_slim h.2.2⟩
  | iff t p q => exact ⟨h.1, kP_slim h.2.1, kP_slim h.2.2⟩
  | post j x p q => exact ⟨h.1, h.2.1, kP_slim h.2.2.1, kP_slim h.2.2.2⟩
theorem rebS_slim_le {p : Pt} : ncnt (rebS p ((TrP.kids p).map slimP)) ≤ ncnt p := by
  cases p with
  | give _ _ => exact Nat.le_refl _
  | ask _ _ _ => exact Nat.le_refl _
  | tell x t p => exact Nat.add_le_add_left (slim_le p) _
  | lett x t p => exact Nat.add_le_add_left (slim_le p) _
  | iff t p q =>
    have h1 := slim_le p
    have h2 := slim_le q
    show 1 + cnt t + ncnt (slimP p) + ncnt (slimP q) ≤ 1 + cnt t + ncnt p + ncnt q
    omega
  | post j x p q =>
    have h1 := slim_le p
    have h2 := slim_le q
    show 1 + ncnt (slimP p) + ncnt (slimP q) ≤ 1 + ncnt p + ncnt q
    omega
/-- parts small enough, their words words -/
def TrS : Tre Pt where
  kids := restP
  sz := pcnt
  pl := plP
  A H p a := PAt H p a ∧ kP p ∧ ncnt p ≤ 500
  tk e h := ⟨PAt.tk e h.1, h.2⟩
  szk n := TrP.szk n
  plk n := TrP.plk n
theorem kids_kP {p q : Pt} (h : kP p) (m : q ∈ restP p) : kP q ∧ ncnt q ≤ ncnt p := by
  cases p with
  | give _ _ => cases m
  | ask _ _ _ => cases m
  | tell x t p => rw [List.mem_singleton.mp m]; exact ⟨h.2.2, by show ncnt p ≤ 1 + cnt t + ncnt p; omega⟩
  | lett x t p => rw [List.mem_singleton.mp m]; exact ⟨h.2.2, by show ncnt p ≤ 1 + cnt t + ncnt p; omega⟩
  | iff t p u =>
    rcases List.mem_cons.mp m with z | z
    · rw [z]; exact ⟨h.2.1, by show ncnt p ≤ 1 + cnt t + ncnt p + ncnt u; omega⟩
    · rw [List.mem_singleton.mp z]; exact ⟨h.2.2, by show ncnt u ≤ 1 + cnt t + ncnt p + ncnt u; omega⟩
  | post j x p u =>
    rcases List.mem_cons.mp m with z | z
    · rw [z]; exact ⟨h.2.2.1, by show ncnt p ≤ 1 + ncnt p + ncnt u; omega⟩
    · rw [List.mem_singleton.mp z]; exact ⟨h.2.2.2, by show ncnt u ≤ 1 + ncnt p + ncnt u; omega⟩
theorem all2_memP {S T : Pt → V → Prop} : ∀ {as : List Pt} {vs : List V}, All2 S as vs → (∀ a ∈ as, ∀ v, S a v → T a v) → All2 T as vs
  | [], [], _, _ => trivial
  | a :: as, v :: vs, h, k => ⟨k a List.mem_cons_self v h.1, all2_memP h.2 fun b hb => k b (List.mem_cons_of_mem _ hb)⟩
  | [], _ :: _, h, _ => h.elim
  | _ :: _, [], h, _ => h.elim
section
variable {P : Program} {w : World} {K : PySem.W.Frag} {mg : Str → Option Value} {base : Heap}
theorem kids_S {k : Nat} {f : Addr} {fd : FuncData} (G : FnOk P w K mg base CX0 k f fd ["part"] (spKids TrP)) : FnOk P w K mg base CX0 k f fd ["part"] (spKids TrS) :=
  G.imp fun vs H Q E h => by
    obtain ⟨p, a, rfl, hA, q⟩ := h
    refine ⟨p, a, rfl, hA.1, fun r H' us s hr k => q r H' us s hr (all2_memP k fun m hm v hv => ?_)⟩
    obtain ⟨b, e1, hb⟩ := hv
    have z := kids_kP hA.2.1 hm
    exact ⟨b, e1, hb, z.1, Nat.le_trans z.2 hA.2.2⟩
/-! ### with_rest -/
def spWr : Sp := fun vs H Q _ => ∃ (a q : Addr) (p : Pt) (ps : List Pt) (us : List V), vs = [.ref a, .ref q] ∧ PAt H p a ∧ H q = some (.tup us) ∧ All2 (TrP.V H) ps us ∧ ps.length = (restP p).length ∧ ∀ r H', Same H H' → PAt H' (rebS p ps) r → Q (.ref r) H'
abbrev swith_rest : Stmt := top 8
theorem scwith_rest : FnScope ["part", "rest"] ["part", "rest"] (defScope swith_rest) := ⟨rfl, rfl, rfl, by decide +kernel, rfl, by decide +kernel, by decide +kernel⟩
theorem ok_wr (T : Txt K mg) {f : Addr} {fd : FuncData} (F : Fun K "with_rest" "with_rest" swith_rest f fd) : FnOk P w K mg base CX0 1 f fd ["part", "rest"] spWr := by
  refine F.ok scwith_rest (fun vs H Q E h => ?_) (fun cdv A outer s H vs Q E hr h => ?_)
  · obtain ⟨a, q, p, ps, us, rfl, _⟩ := h
    rfl
  obtain ⟨a, q0, p, ps, us, rfl, hA, hq, hk, hl, q⟩ := h
  refine ⟨_, (pss_one (ps_ret (pe_op op_catA (pe_slice sl_tupA (pv 0) po_none (po_some (pe_op op_sub (pe_callB call_len_seq (by rfl) T.m_len PySem.boot_len (pa_cons (pv 0) pa_nil)) (pe_callB call_len_seq (by rfl) T.m_len PySem.boot_len (pa_cons (pv 1) pa_nil))))) (pv 1)))), ?_⟩
  obtain ⟨xs, hx1, hx2, hx3, hx4⟩ := rebS_at hA hl hk
  refine ⟨_, rfl, ?_⟩
  dsimp only [tNoPart]
  refine ⟨_, rfl, a, _, rfl, .inr (SqT.of hx1), _, rfl, q0, _, rfl, .inr (SqT.of hq), _, _, rfl, rfl, _, rfl, ?_⟩
  refine slA_of (K := K) (lo := none) (hi := some ((xs.length : Int) - (us.length : Int))) hx1 fun t1 H5 s5 g5 => ?_
  have e8 : cutV xs none (some ((xs.length : Int) - (us.length : Int))) = xs.take (xs.length - us.length) := by
    rw [cut_to (by omega) (by omega)]
    congr 1
    omega
  rw [e8] at g5
  refine ⟨_, rfl, catA_of g5 (s5 _ _ hq) (by rw [List.length_take]; omega) fun r2 H6 s6 g6 => ?_⟩
  have s56 := s5.trans s6
  exact q r2 H6 s56 (hx4 (tk_same s56) g6)
/-! ### handed_instead -/
def spHi : Sp := fun vs H Q _ => ∃ (a q : Addr) (j k : Str) (p : Pt) (ps : List Pt) (us : List V), vs = [.ref a, .ref q, .str j, .str k] ∧ PAt H p a ∧ H q = some (.tup us) ∧ All2 (TrP.V H) ps us ∧ ps.length = (restP p).length ∧ ∀ r H', Same H H' → PAt H' (hand1 j k p ps) r → Q (.ref r) H'
abbrev shanded_instead : Stmt := top 16
theorem schanded_instead : FnScope ["part", "rest", "j", "k"] ["part", "rest", "j", "k"] (defScope shanded_instead) := ⟨rfl, rfl, rfl, by decide +kernel, rfl, by decide +kernel, by decide +kernel⟩
theorem ok_hi {f f1 f2 : Addr} {fd d1 d2 : FuncData} (F : Fun K "handed_instead" "handed_instead" shanded_instead f fd) (Ghand_of : FnOk P w K mg base CX0 1 f1 d1 ["part"] spHandOf) (Rhand_of : Ref K mg "hand_of" f1 d1 ["part"])
    (Gwith_rest : FnOk P w K mg base CX0 1 f2 d2 ["part", "rest"] spWr) (Rwith_rest : Ref K mg "with_rest" f2 d2 ["part", "rest"]) : FnOk P w K mg base CX0 2 f fd ["part", "rest", "j", "k"] spHi := by
  refine F.ok schanded_instead (fun vs H Q E h => ?_) (fun cdv A outer s H vs Q E hr h => ?_)
  · obtain ⟨a, q, j, k, p, ps, us, rfl, _⟩ := h
    rfl
  obtain ⟨a, q0, j, k, p, ps, us, rfl, hA, hq, hk, hl, q⟩ := h
  refine ⟨_, (pss_cons (ps_if (pt_cmpR op_ne (pe_call Ghand_of (hr.mono (by omega)) rfl Rhand_of.m Rhand_of.k Rhand_of.b .nil pass0 (pa_cons (pv 0) pa_nil)) (pv 2) (nomark _)) (pss_one (ps_ret (pe_call Gwith_rest (hr.mono (by omega)) rfl Rwith_rest.m Rwith_rest.k Rwith_rest.b .nil pass0 (pa_cons (pv 0) (pa_cons (pv 1) pa_nil))))) pss_nil)
    (pss_cons (ps_if (pt_cmpR op_eq (pe_ix ix_tup (pv 0) pe_int (fun _ _ => rfl)) pe_str (nomark _)) (pss_one (ps_ret (pe_tup (pa_cons pe_str (pa_cons (pv 3) (pa_cons (pe_ix ix_tup (pv 0) pe_int (fun _ _ => rfl)) pa_nil)))))) pss_nil)
    (pss_one (ps_ret (pe_tup (pa_cons pe_str (pa_cons (pe_ix ix_tup (pv 0) pe_int (fun _ _ => rfl)) (pa_cons (pe_ix ix_tup (pv 0) pe_int (fun _ _ => rfl)) (pa_cons (pv 3) pa_nil))))))))), ?_⟩
  have wr : (∀ H', True → H' = H → ∃ vs', True) := fun _ _ _ => ⟨0, trivial⟩
  refine ⟨_, rfl, a, p, rfl, hA, ?_⟩
  cases p with
  | give i t =>
    refine ⟨_, rfl, rfl, _, rfl, ?_⟩
    by_cases c : i = j
    · refine itF (by rw [c]; show (!decide (V.str j = V.str j)) = false; rw [decide_eq_true rfl]; rfl) ?_
      obtain ⟨b, h1, h2⟩ := hA
      refine ⟨_, rfl, a, _, _, _, rfl, rfl, SqT.of h1, at0, rfl, _, rfl, itT rfl ?_⟩
      refine ⟨_, rfl, _, rfl, a, _, _, _, rfl, rfl, SqT.of h1, at2, sz (by show 3 ≤ 100000; decide), fun r hr1 => ?_⟩
      have s1 := same_new hr1 (.tup [V.str "give", .str k, .ref b])
      refine q r _ s1 ?_
      show PAt _ (.give (hnW j k i) t) r
      unfold hnW
      rw [if_pos c]
      exact ⟨b, upd_same, h2.tk (tk_same s1)⟩
    · refine itT (by show (!decide (V.str i = V.str j)) = true; rw [decide_eq_false fun z => c (V.str.inj z)]; rfl) ?_
      refine ⟨_, rfl, _, rfl, a, q0, .give i t, ps, us, rfl, hA, hq, hk, hl, fun r H' s h => q r H' s ?_⟩
      show PAt _ (.give (hnW j k i) t) r
      unfold hnW
      rw [if_neg c]
      match ps, hl with
      | [], _ => exact h
  | ask g ts i =>
    refine ⟨_, rfl, rfl, _, rfl, ?_⟩
    by_cases c : i = j
    · refine itF (by rw [c]; show (!decide (V.str j = V.str j)) = false; rw [decide_eq_true rfl]; rfl) ?_
      obtain ⟨b, ws, h1, h2, h3⟩ := hA
      refine ⟨_, rfl, a, _, _, _, rfl, rfl, SqT.of h1, at0, rfl, _, rfl, itF rfl ?_⟩
      refine ⟨_, rfl, a, _, _, _, rfl, rfl, SqT.of h1, at1, _, rfl, a, _, _, _, rfl, rfl, SqT.of h1, at2, _, rfl, sz (by show 4 ≤ 100000; decide), fun r hr1 => ?_⟩
      have s1 := same_new hr1 (.tup [V.str "ask", .str g, .ref b, .str k])
      refine q r _ s1 ?_
      show PAt _ (.ask g ts (hnW j k i)) r
      unfold hnW
      rw [if_pos c]
      exact ⟨b, ws, upd_same, s1 _ _ h2, h3.imp fun _ _ z => z.tk (tk_same s1)⟩
    · refine itT (by show (!decide (V.str i = V.str j)) = true; rw [decide_eq_false fun z => c (V.str.inj z)]; rfl) ?_
      refine ⟨_, rfl, _, rfl, a, q0, .ask g ts i, ps, us, rfl, hA, hq, hk, hl, fun r H' s h => q r H' s ?_⟩
      show PAt _ (.ask g ts (hnW j k i)) r
      unfold hnW
      rw [if_neg c]
      match ps, hl with
      | [], _ => exact h
  | tell x t p => exact ⟨_, rfl, rfl, _, rfl, itT rfl ⟨_, rfl, _, rfl, a, q0, .tell x t p, ps, us, rfl, hA, hq, hk, hl, q⟩⟩
  | lett x t p => exact ⟨_, rfl, rfl, _, rfl, itT rfl ⟨_, rfl, _, rfl, a, q0, .lett x t p, ps, us, rfl, hA, hq, hk, hl, q⟩⟩
  | iff t p p2 => exact ⟨_, rfl, rfl, _, rfl, itT rfl ⟨_, rfl, _, rfl, a, q0, .iff t p p2, ps, us, rfl, hA, hq, hk, hl, q⟩⟩
  | post i x p p2 => exact ⟨_, rfl, rfl, _, rfl, itT rfl ⟨_, rfl, _, rfl, a, q0, .post i x p p2, ps, us, rfl, hA, hq, hk, hl, q⟩⟩
/-! ### slim_part -/
def jOf : Pt → Str
  | .post j _ _ _ => j
  | _ => ""
def kOf : Pt → Str
  | .post _ _ (.give k _) _ => k
  | _ => ""
abbrev sslim_part : Stmt := top 15
theorem scslim_part : FnScope ["part", "rest", "told", "head", "j", "x", "then", "inner"] ["part", "rest"] (defScope sslim_part) := ⟨rfl, rfl, rfl, by decide +kernel, rfl, by decide +kernel, by decide +kernel⟩
theorem ok_sp (T : Txt K mg) {c Pt0 : Addr} {TT : List (Addr × Str)} (TB : TabB base mg c Pt0) (hmem : (Pt0, ("slim_part.<locals>.<lambda>" : Str)) ∈ TT) (hun : ∀ p ∈ TT, p.1 = Pt0 → p.2 = ("slim_part.<locals>.<lambda>" : Str)) {f f1 f2 f3 f4 f5 f6 : Addr} {fd d1 d2 d3 d4 d5 d6 : FuncData} (F : FunC K "slim_part" "slim_part" sslim_part f fd c)
    (Gwith_rest : FnOk P w K mg base CX0 1 f1 d1 ["part", "rest"] spWr) (Rwith_rest : Ref K mg "with_rest" f1 d1 ["part", "rest"]) (Gis_idle : FnOk P w K mg base CX0 4 f2 d2 ["part"] spIdle) (Ris_idle : Ref K mg "is_idle" f2 d2 ["part"])
    (Gis_passed_on : FnOk P w K mg base CX0 1 f3 d3 ["post"] spPassed) (Ris_passed_on : Ref K mg "is_passed_on" f3 d3 ["post"])
    (Gremade : ∀ j k : Str, FnL P w K mg base 4 3 f4 d4 ["body", "parts", "made"] (spRemX TrP TrP.V (hand1 j k) (renP j k) (Tabs TT) f5)) (Rremade : Ref K mg "remade" f4 d4 ["body", "parts", "made"]) (Rrest_of : Ref K mg "rest_of" f5 d5 ["part"])
    (Ghanded_instead : FnOk P w K mg base CX0 2 f6 d6 ["part", "rest", "j", "k"] spHi) (Rhanded_instead : Ref K mg "handed_instead" f6 d6 ["part", "rest", "j", "k"]) : FnOk P w K mg base CX0 8 f fd ["part", "rest"] (spMadeX TrS TrP.V slimG slimP (Tabs TT)) := by
  refine okC F scslim_part (fun vs H Q E h => ?_) (fun A outer s H vs Q E hr h => ?_)
  · obtain ⟨n, a, q, bs, us, rfl, _⟩ := h
    rfl
  obtain ⟨n, a, q0, bs, us, rfl, hJ, hA, hq, hk, rfl, q⟩ := h
  refine ⟨_, (pss_cons (ps_set (i := 2) scslim_part.nd rfl (Or.inl rfl) (pe_call Gwith_rest (hr.mono (by omega)) rfl Rwith_rest.m Rwith_rest.k Rwith_rest.b .nil pass0 (pa_cons (pv 0) (pa_cons (pv 1) pa_nil))))
    (pss_cons (ps_if (pt_not (pt_val (pe_call Gis_idle (hr.mono (by omega)) rfl Ris_idle.m Ris_idle.k Ris_idle.b .nil pass0 (pa_cons (pv 2) pa_nil)))) (pss_one (ps_ret (pv 2))) pss_nil)
    (pss_cons (ps_asg (pv 2) (pg_tup rfl (pgs_cons (pg_name (i := 3) scslim_part.nd rfl (Or.inl rfl)) (pgs_cons (pg_name (i := 4) scslim_part.nd rfl (Or.inr rfl)) (pgs_cons (pg_name (i := 5) scslim_part.nd rfl (Or.inl rfl)) (pgs_cons (pg_name (i := 6) scslim_part.nd rfl (Or.inr rfl)) (pgs_cons (pg_name (i := 7) scslim_part.nd rfl (Or.inl rfl)) pgs_nil)))))))
    (pss_cons (ps_if (pt_val (pe_call Gis_passed_on (hr.mono (by omega)) rfl Ris_passed_on.m Ris_passed_on.k Ris_passed_on.b .nil pass0 (pa_cons (pv 2) pa_nil))) (pss_one (ps_ret (pe_callLam (T := TT) (N := ["one", "own", "j", "then"]) (ps := ["one", "own"]) (fr := ["j", "then"]) (js := [4, 6]) (tb := tCall spHi [] E0 (tCons (tVar 0) (tCons (tVar 1) (tCons (tVar 2) (tCons (tOp (rIxT K) (tVar 3) (tC (.int 1))) tNil))))) TB rfl hmem (fun p hp h1 => hun p hp h1)
        (Gremade (jOf (rebS n ((TrS.kids n).map slimP))) (kOf (rebS n ((TrS.kids n).map slimP)))) (hr.mono (by omega)) rfl Rremade.m Rremade.k Rremade.b (pv 7) (pe_glob (v := .ref f5) rfl Rrest_of.m rfl) (nscope_by (by decide +kernel)) (by change ∀ y : Str × NameKind, y ∈ _ → y.2 = NameKind.free → (defScope sslim_part).names.lookup y.1 = some NameKind.cell ∨ (defScope sslim_part).names.lookup y.1 = some NameKind.free; decide +kernel) (by decide +kernel) (by rfl) (fun _ _ _ _ _ us hl => match us, hl with | [_, _], _ => rfl)
        (fun _ _ _ _ _ _ _ _ room => pe_call Ghanded_instead (room.mono (by omega)) rfl Rhanded_instead.m Rhanded_instead.k Rhanded_instead.b .nil pass0 (pa_cons (pv 0) (pa_cons (pv 1) (pa_cons (pv 2) (pa_cons (pe_ix ix_tup (pv 3) pe_int (fun _ _ => rfl)) pa_nil)))))))) pss_nil)
    (pss_one (ps_ret (pv 7))))))), ?_⟩
  have hkT : kP (rebS n ((TrS.kids n).map slimP)) := rebS_slim_kP hA.2.1
  have hnT : ncnt (rebS n ((TrS.kids n).map slimP)) ≤ 500 := Nat.le_trans rebS_slim_le hA.2.2
  have eG : slimG n ((TrS.kids n).map slimP) = slim1 (rebS n ((TrS.kids n).map slimP)) := rfl
  rw [eG] at q
  refine ⟨_, rfl, _, rfl, a, q0, n, _, us, rfl, hA.1, hq, hk, by rw [List.length_map]; rfl, fun t H1 s1 hT => ?_⟩
  generalize rebS n ((TrS.kids n).map slimP) = told at hkT hnT q hT ⊢
  have J1 := tabs_new hJ s1
  refine ⟨_, rfl, .inl told, t, rfl, ⟨hT, hkT⟩, Nat.le_trans hnT (by decide), fun H2 s2 => ?_⟩
  have J2 := tabs_new J1 s2
  have s12 := s1.trans s2
  have hT2 := PAt.tk (tk_same s2) hT
  refine ⟨_, rfl, ?_⟩
  cases ei : idleN (.inl told) with
  | false =>
    refine itT rfl ⟨_, rfl, q _ H2 (sx_same s12) J2 ⟨t, rfl, ?_⟩⟩
    have e : slim1 told = told := by
      cases told with
      | post j x p u =>
        have e1 : (passed p x || !handed j u) = false := ei
        rw [Bool.or_eq_false_iff] at e1
        have e2 : handed j u = true := by
          cases e3 : handed j u with
          | true => rfl
          | false => rw [e3] at e1; exact absurd e1.2 Bool.noConfusion
        cases p with
        | give k t =>
          show (if passed (.give k t) x = true then renP j k u else if handed j u = true then Pt.post j x (.give k t) u else u) = _
          rw [if_neg (by rw [e1.1]; exact Bool.noConfusion), if_pos e2]
        | _ =>
          show (if handed j u = true then _ else u) = _
          rw [if_pos e2]
      | _ => rfl
    rw [e]
    exact hT2
  | true =>
    cases told with
    | post j x p u =>
      obtain ⟨c1, d1, h1, h2, h3⟩ := hT2
      refine itF rfl ⟨_, rfl, t, _, rfl, SqT.of h1, rfl, _, _, rfl, _, _, rfl, _, _, rfl, _, _, rfl, _, _, rfl, rfl, ?_⟩
      refine ⟨_, rfl, j, x, p, u, t, rfl, ⟨c1, d1, h1, h2, h3⟩, hkT, fun H3 s3 => ⟨_, rfl, ?_⟩⟩
      have J3 := tabs_new J2 s3
      have s13 := s12.trans s3
      have h23 := PAt.tk (tk_same s3) h2
      have h33 := PAt.tk (tk_same s3) h3
      cases ep : passed p x with
      | true =>
        cases p with
        | give k tm =>
          obtain ⟨b1, g1, g2⟩ := h23
          refine itT rfl ?_
          refine ⟨_, rfl, J3, fun fl c' H7 s7 T7 hfl kn7 => ?_⟩
          refine ⟨fl, c', kn7, u, d1, rfl, kn7, T7, PAt.tk s7.tk h33, ?_, ?_, fun v8 H8 s8 T8 r8 => ?_⟩
          · have z1 : pcnt u ≤ ncnt u := pcnt_le_ncnt u
            have z2 : 1 + ncnt (Pt.give k tm) + ncnt u ≤ 500 := hnT
            show pcnt u ≤ 5000
            omega
          · intro H9 m a9 q9 bs us9 Q' s9 kn9 T9 hm h9 k9 l9 q'
            refine ⟨rfl, ?_⟩
            have s79 := s7.trans s9
            refine ⟨_, rfl, _, rfl, _, rfl, _, rfl, c1, _, _, _, rfl, rfl, SqT.of (s79.t g1), at1, ?_⟩
            refine ⟨a9, q9, j, k, m, bs, us9, rfl, hm, h9, k9, by rw [l9, List.length_map]; rfl, fun r H10 s10 r10 => q' _ H10 (sx_same s10) (tabs_new T9 s10) ⟨r, rfl, r10⟩⟩
          · refine q v8 H8 ((sx_same s13).trans (s7.trans s8)) T8 ?_
            have e : slim1 (.post j x (.give k tm) u) = renP j k u := by
              show (if passed (.give k tm) x = true then renP j k u else _) = _
              rw [if_pos ep]
            rw [e]
            exact r8
        | _ => exact absurd ep Bool.noConfusion
      | false =>
        refine itF rfl ⟨_, rfl, q _ H3 (sx_same s13) J3 ⟨d1, rfl, ?_⟩⟩
        have e1 : (passed p x || !handed j u) = true := ei
        rw [ep, Bool.false_or] at e1
        have e2 : handed j u = false := by
          cases e3 : handed j u with
          | false => rfl
          | true => rw [e3] at e1; exact absurd e1 Bool.noConfusion
        have e : slim1 (.post j x p u) = u := by
          cases p with
          | give k tm =>
            show (if passed (.give k tm) x = true then renP j k u else if handed j u = true then Pt.post j x (.give k tm) u else u) = u
            rw [if_neg (by rw [ep]; exact Bool.noConfusion), if_neg (by rw [e2]; exact Bool.noConfusion)]
          | _ =>
            show (if handed j u = true then _ else u) = u
            rw [if_neg (by rw [e2]; exact Bool.noConfusion)]
        rw [e]
        exact h33
    | _ => exact absurd ei Bool.noConfusion
end
end KB

namespace KB
open PySem L2 HT LamX NdefX

section
variable {P : Program} {w : World} {K : PySem.W.Frag} {mg : Str → Option Value} {base : Heap}
/-! ### slim -/
def spSlim (T : List (Addr × Str)) : Sp := fun vs H Q _ => ∃ (p : Addr) (es : List TEr) (us : List V), vs = [.ref p] ∧ TBkAt H es us p ∧ es.length ≤ 6 ∧ (∀ e ∈ es, kP e.2.2 ∧ ncnt e.2.2 ≤ 500) ∧ Tabs T H ∧ ∀ r H' us', Sx H H' → Tabs T H' → TBkAt H' (es.map slimE) us' r → Q (.ref r) H'
abbrev sslim : Stmt := top 14
theorem scslim : FnScope ["turned", "name", "names", "body"] ["turned"] (defScope sslim) := ⟨rfl, rfl, rfl, by decide +kernel, rfl, by decide +kernel, by decide +kernel⟩
theorem ok_slim (T : Txt K mg) {TT : List (Addr × Str)} {f f1 f2 f3 : Addr} {fd d1 d2 d3 : FuncData} (F : Fun K "slim" "slim" sslim f fd) (Gremade : FnOk P w K mg base CX0 11 f1 d1 ["body", "parts", "made"] (spRemJ TrS TrP.V slimP (Tabs TT) f2 f3)) (Rremade : Ref K mg "remade" f1 d1 ["body", "parts", "made"])
    (Rrest_of : Ref K mg "rest_of" f2 d2 ["part"]) (Rslim_part : Ref K mg "slim_part" f3 d3 ["part", "rest"]) : FnOk P w K mg base CX0 12 f fd ["turned"] (spSlim TT) := by
  refine F.ok scslim (fun vs H Q E h => ?_) (fun cdv A outer s H vs Q E hr h => ?_)
  · obtain ⟨p, es, us, rfl, _⟩ := h
    rfl
  obtain ⟨p, es, us, rfl, hB, hl6, hE, hT, q⟩ := h
  refine ⟨_, (pss_one (ps_ret (pe_callTy call_tuple_of (by rfl) T.m_tuple (by decide +kernel) (pa_cons (pe_lc (own := [("name", 1), ("names", 2), ("body", 3)]) (g := gTup K 3 (gCons (gName 1) (gCons (gName 2) (gCons (gName 3) gNil)))) (tt := tYes) (te := tTup (tCons (tVar 1) (tCons (tVar 2) (tCons (tCall (spRemJ TrS TrP.V slimP (Tabs TT) f2 f3) [] E0 (tCons (tVar 3) (tCons (tC (.ref f2)) (tCons (tC (.ref f3)) tNil)))) tNil)))) (by rfl) scslim.nd (pi_tup (pv 0)) (blkOk_by (own := [("name", 1), ("names", 2), ("body", 3)]) (N := ["turned", "name", "names", "body"]) (sc := defScope sslim) (by decide +kernel)) (fun _ _ _ _ _ => (pg_tup rfl (pgs_cons (pg_name (i := 1) scslim.nd rfl (Or.inl rfl)) (pgs_cons (pg_name (i := 2) scslim.nd rfl (Or.inl rfl)) (pgs_cons (pg_name (i := 3) scslim.nd rfl (Or.inl rfl)) pgs_nil))))) (fun _ _ _ _ _ => pts_nil) (fun _ _ _ _ _ => (pe_tup (pa_cons (pv 1) (pa_cons (pv 2) (pa_cons (pe_call Gremade (hr.mono (by omega)) rfl Rremade.m Rremade.k Rremade.b .nil pass0 (pa_cons (pv 3) (pa_cons (pe_glob (v := .ref f2) rfl Rrest_of.m rfl) (pa_cons (pe_glob (v := .ref f3) rfl Rslim_part.m rfl) pa_nil)))) pa_nil)))))) pa_nil)))), ?_⟩
  refine ⟨_, rfl, p, rfl, ⟨_, SqT.of hB.1⟩, fun D hD => lc_tup (K := K) (a := p) (xs := us) (fun i H' => Sx H H' ∧ Tabs TT H' ∧ ∃ acc, H' D = some (.lst acc) ∧ All2 (TErV H') ((es.take i).map slimE) acc) ⟨sx_new hD _, tabs_new hT (same_new hD _), [], upd_same, by rw [List.take_zero]; trivial⟩ ?_ ?_ ?_⟩
  · rintro i H' _ ⟨s1, _⟩
    exact SqT.of (s1.t hB.1)
  · rintro i x H1 hx ⟨s1, t1, acc, h1, k1⟩
    obtain ⟨e, he, qa, r, b, rfl, g1, g2, g3⟩ := hB.2.get hx
    obtain ⟨hj, hj2⟩ := List.getElem?_eq_some_iff.mp he
    have hee := mem_of_get he
    have hl := k1.len
    rw [List.length_map, List.length_take] at hl
    have z1 : pcnt e.2.2 ≤ ncnt e.2.2 := pcnt_le_ncnt e.2.2
    have z2 := (hE e hee).2
    refine ⟨qa, _, rfl, SqT.of (s1.t g1), rfl, _, _, rfl, _, _, rfl, _, _, rfl, rfl, rfl, ?_⟩
    dsimp only [tYes]
    refine iteT ⟨_, rfl, _, rfl, _, rfl, e.2.2, b, rfl, t1, ⟨PAt.tk s1.tk g3, (hE e hee).1, (hE e hee).2⟩, by show pcnt e.2.2 ≤ 5000; omega, fun v H2 s2 t2 r2 => ?_⟩
    obtain ⟨b2, rfl, hb2⟩ := r2
    refine ⟨sz (by show 3 ≤ 100000; decide), fun t3 ht3 => ?_⟩
    have s3 := same_new ht3 (.tup [.str e.1, .ref r, .ref b2])
    have h3 : upd H2 t3 (.tup [.str e.1, .ref r, .ref b2]) t3 = some (.tup [.str e.1, .ref r, .ref b2]) := upd_same
    have t3' := tabs_new t2 s3
    generalize upd H2 t3 (.tup [.str e.1, .ref r, .ref b2]) = H3 at s3 h3 t3'
    have s23 := s2.trans (sx_same s3)
    have h2 := s23.l h1
    have tk := tk_put (o := .lst (acc ++ [.ref t3])) h2
    refine ⟨acc, h2, Nat.lt_of_le_of_lt (m := 6) (by omega) (by decide), sx_mut (s1.trans s23) hD _, tabs_mut t3' h2 _, _, upd_same, ?_⟩
    rw [List.take_succ_eq_append_getElem hj, hj2, List.map_append]
    exact ((k1.imp fun _ _ z => TErV.tk s23.tk z).imp fun _ _ z => z.tk tk).app ⟨⟨t3, r, b2, rfl, tk _ _ h3, tk _ _ (s23.t (s1.t g2)), PAt.tk ((tk_same s3).trans tk) hb2⟩, trivial⟩
  rintro H1 ⟨s1, t1, acc, h1, k1⟩
  rw [hB.2.len, List.take_length] at k1
  refine ⟨D, acc, rfl, .inl ⟨SqL.of h1, fun t0 ht0 => ?_⟩⟩
  have s2 := same_new ht0 (.tup acc)
  exact q _ _ acc (s1.trans (sx_same s2)) (tabs_new t1 s2) ⟨upd_same, k1.imp fun _ _ z => TErV.tk (tk_same s2) z⟩
end
end KB

namespace KB
open PySem L2 HT LamX NdefX

theorem eqV_str (x y : Str) : eqV (.str x) (.str y) = decide (V.str x = V.str y) := by
  unfold eqV
  first | rfl | (by_cases c : x = y <;> simp [c])
theorem inV_mem {x : Str} {xs : List Str} (h : x ∈ xs) : inV (.str x) (xs.map V.str) = true := by
  unfold inV
  rw [List.any_eq_true]
  exact ⟨_, List.mem_map.mpr ⟨x, h, rfl⟩, by rw [eqV_str]; exact decide_eq_true rfl⟩
theorem inV_not {x : Str} {xs : List Str} (h : x ∉ xs) : inV (.str x) (xs.map V.str) = false := by
  cases e : inV (.str x) (xs.map V.str) with
  | false => rfl
  | true =>
    exfalso
    unfold inV at e
    rw [List.any_eq_true] at e
    obtain ⟨v, hv, e2⟩ := e
    obtain ⟨y, hy, rfl⟩ := List.mem_map.mp hv
    rw [eqV_str] at e2
    have e3 := V.str.inj (of_decide_eq_true e2)
    exact h (e3 ▸ hy)
def lettersW : Str := "abcdefghijklmnopqrstuvwxyz"
theorem letter_in : ∀ c : Nat, 97 ≤ c → c ≤ 122 → (!(Builtin.Str.occurrences lettersW ⟨#[c]⟩ 0 lettersW.length 1).isEmpty) = true := by
  have h : ∀ k < 26, (!(Builtin.Str.occurrences lettersW ⟨#[97 + k]⟩ 0 lettersW.length 1).isEmpty) = true := by decide +kernel
  intro c h1 h2
  have := h (c - 97) (by omega)
  rw [show 97 + (c - 97) = c by omega] at this
  exact this
section
variable {P : Program} {w : World} {K : PySem.W.Frag} {mg : Str → Option Value} {base : Heap}
/-! ### _law_is_word -/
def spIw : Sp := fun vs H Q _ => ∃ z : Str, vs = [.str z] ∧ isW z = true ∧ ∀ H', Same H H' → Q (.bl true) H'
abbrev s_law_is_word : Stmt := top 39
theorem scLis_word : FnScope ["thing", "sign"] ["thing"] (defScope s_law_is_word) := ⟨rfl, rfl, rfl, by decide +kernel, rfl, by decide +kernel, by decide +kernel⟩
theorem ok_iw (T : Txt K mg) {f : Addr} {fd : FuncData} (F : Fun K "_law_is_word" "_law_is_word" s_law_is_word f fd) : FnOk P w K mg base CX0 1 f fd ["thing"] spIw := by
  refine F.ok scLis_word (fun vs H Q E h => ?_) (fun cdv A outer s H vs Q E hr h => ?_)
  · obtain ⟨z, rfl, _⟩ := h
    rfl
  obtain ⟨z, rfl, hz, q⟩ := h
  refine ⟨_, (pss_cons (ps_if (PW.pt (pw_or (pt_not (pt_val (pe_callB call_isi (by rfl) T.m_isinstance (by decide +kernel) (pa_cons (pv 0) (pa_cons (pe_bltn (v := .ty "str") rfl T.m_str (by decide +kernel) rfl) pa_nil))))) (pw_or (pt_cmpR op_lt (pe_callB call_len (by rfl) T.m_len PySem.boot_len (pa_cons (pv 0) pa_nil)) pe_int (nomark _)) (pw_or1 (pt_cmpR op_gt (pe_callB call_len (by rfl) T.m_len PySem.boot_len (pa_cons (pv 0) pa_nil)) pe_int (nomark _)))))) (pss_one (ps_ret pe_bl)) pss_nil)
    (pss_cons (ps_if (pt_cmpR op_in_seq (pv 0) (pe_tup (pa_cons pe_str (pa_cons pe_str (pa_cons pe_str (pa_cons pe_str (pa_cons pe_str (pa_cons pe_str (pa_cons pe_str (pa_cons pe_str pa_nil))))))))) rfl) (pss_one (ps_ret pe_bl)) pss_nil)
    (pss_one (ps_ret (pe_callB (cr_all rfl) (by rfl) T.m_all (by decide +kernel) (pa_cons (pe_lc (own := [("sign", 1)]) (g := gName 1) (by rfl) scLis_word.nd (pi_str (pv 0)) (blkOk_by (own := [("sign", 1)]) (N := ["thing", "sign"]) (sc := defScope s_law_is_word) (by decide +kernel)) (fun _ _ _ _ _ => (pg_name (i := 1) scLis_word.nd rfl (Or.inl rfl))) (fun _ _ _ _ _ => pts_nil) (fun _ _ _ _ _ => (pe_cmpR op_in_str (pv 1) pe_str rfl))) pa_nil)))))), ?_⟩
  have hz0 := hz
  unfold isW at hz0
  rw [Bool.and_eq_true, Bool.and_eq_true, Bool.and_eq_true] at hz0
  obtain ⟨⟨hk, hl1, hl8⟩, hs⟩ := hz0
  have hl1 := of_decide_eq_true hl1
  have hl8 := of_decide_eq_true hl8
  have lenW : LenV K (.str z) H z.length := ⟨Nat.le_trans hl8 (by decide), rfl⟩
  refine ⟨_, rfl, .str z, .ty "str", .type "str", .type "str", true, rfl, .ty "str", .base (.str z), kit_ty (by decide +kernel), _, rfl, ?_⟩
  refine iteF ⟨_, rfl, _, _, rfl, lenW, _, _, rfl, rfl, _, rfl, itF (decide_eq_false (by omega)) ?_⟩
  refine ⟨_, rfl, _, _, rfl, lenW, _, _, rfl, rfl, _, rfl, itF (decide_eq_false (by omega)) ?_⟩
  refine ⟨_, rfl, sz (by show 8 ≤ 100000; decide), fun t1 ht1 => ?_⟩
  have s1 := same_new ht1 (.tup [V.str "let", .str "be", .str "in", .str "tell", .str "if", .str "then", .str "else", .str "home"])
  have g1 : upd H t1 (.tup [V.str "let", .str "be", .str "in", .str "tell", .str "if", .str "then", .str "else", .str "home"]) t1 = some (.tup [V.str "let", .str "be", .str "in", .str "tell", .str "if", .str "then", .str "else", .str "home"]) := upd_same
  generalize upd H t1 (.tup [V.str "let", .str "be", .str "in", .str "tell", .str "if", .str "then", .str "else", .str "home"]) = H1 at s1 g1
  have sub : ∀ y ∈ (["let", "be", "in", "tell", "if", "then", "else", "home"] : List Str), y ∈ keptW := by decide +kernel
  have hno : z ∉ (["let", "be", "in", "tell", "if", "then", "else", "home"] : List Str) := fun hm => by
    have h1 : keptW.contains z = true := by simpa using sub z hm
    rw [h1] at hk
    exact absurd hk Bool.false_ne_true
  refine ⟨t1, _, rfl, .inr (SqT.of g1), rfl, rfl, _, rfl, itF (inV_not hno) ?_⟩
  refine ⟨_, rfl, z, rfl, fun D hD => lc_it (walk_str (z := z)) (fun i H' => Same H1 H' ∧ H' D = some (.lst ((List.replicate i true).map V.bl))) ⟨same_new hD _, upd_same⟩ (fun _ _ _ _ => trivial) ?_ ?_⟩
  · rintro i x H3 H4 hi ⟨s3, h3⟩ ⟨rfl, c, hc, rfl⟩
    have hcm : c ∈ z.cps.toList := Array.mem_toList_iff.mpr (Array.mem_of_getElem? hc)
    have hsm := List.all_eq_true.mp hs c hcm
    unfold small at hsm
    rw [Bool.and_eq_true] at hsm
    have e := letter_in c (of_decide_eq_true hsm.1) (of_decide_eq_true hsm.2)
    refine ⟨rfl, ?_⟩
    dsimp only [tYes]
    refine iteT ⟨_, rfl, ⟨#[c]⟩, _, rfl, rfl, ?_⟩
    have hz8 : z.cps.size ≤ 8 := hl8
    refine ⟨_, h3, Nat.lt_of_le_of_lt (m := 8) (by rw [List.length_map, List.length_replicate]; omega) (by decide), same_mut s3 hD, ?_⟩
    rw [upd_same, List.replicate_succ', List.map_append]
    show some (HO.lst (_ ++ [V.bl (!(Builtin.Str.occurrences lettersW ⟨#[c]⟩ 0 lettersW.length 1).isEmpty)])) = _
    rw [e]
    rfl
  · rintro H3 ⟨s3, h3⟩
    refine ⟨D, _, rfl, SqL.of h3, ?_⟩
    have e : (List.replicate z.cps.size true).all id = true := by simp
    rw [e]
    exact q H3 (s1.trans s3)
/-! ### _law_whole -/
def spWh : Sp := fun vs H Q _ => ∃ z : Int, vs = [.int z] ∧ Q (.bl true) H
abbrev s_law_whole : Stmt := top 40
theorem scLwhole : FnScope ["thing"] ["thing"] (defScope s_law_whole) := ⟨rfl, rfl, rfl, by decide +kernel, rfl, by decide +kernel, by decide +kernel⟩
theorem ok_wh (T : Txt K mg) {f : Addr} {fd : FuncData} (F : Fun K "_law_whole" "_law_whole" s_law_whole f fd) : FnOk P w K mg base CX0 1 f fd ["thing"] spWh := by
  refine F.ok scLwhole (fun vs H Q E h => ?_) (fun cdv A outer s H vs Q E hr h => ?_)
  · obtain ⟨z, rfl, _⟩ := h
    rfl
  obtain ⟨z, rfl, q⟩ := h
  refine ⟨_, (pss_one (ps_ret (pe_and (pe_callB call_isi (by rfl) T.m_isinstance (by decide +kernel) (pa_cons (pv 0) (pa_cons (pe_bltn (v := .ty "int") rfl T.m_int (by decide +kernel) rfl) pa_nil))) (pe_one (pe_not (pe_callB call_isi (by rfl) T.m_isinstance (by decide +kernel) (pa_cons (pv 0) (pa_cons (pe_bltn (v := .ty "bool") rfl T.m_bool (by decide +kernel) rfl) pa_nil)))))))), ?_⟩
  refine ⟨_, rfl, .int z, .ty "int", .type "int", .type "int", true, rfl, .ty "int", .base (.int z), kit_ty (by decide +kernel), _, rfl, ?_⟩
  refine itT rfl ⟨_, rfl, .int z, .ty "bool", .type "int", .type "bool", false, rfl, .ty "bool", .base (.int z), kit_ty (by decide +kernel), _, rfl, ?_⟩
  exact q
/-! ### _law_good_term -/
def spGt (n : Nat) : Sp := fun vs H Q _ => ∃ (a l : Addr) (t : Tm) (xs : List Str) (hd : Str → Option Nat), vs = [.ref a, .ref l] ∧ At H t a ∧ okT t ∧ simple t = true ∧ okS hd t xs ∧ HtLe n t ∧ H l = some (.lst (xs.map V.str)) ∧ ∀ H', Same H H' → Q (.bl true) H'
abbrev s_law_good_term : Stmt := top 41
theorem scLgood_term : FnScope ["term", "names", "one"] ["term", "names"] (defScope s_law_good_term) := ⟨rfl, rfl, rfl, by decide +kernel, rfl, by decide +kernel, by decide +kernel⟩
theorem ok_gt (T : Txt K mg) {n : Nat} {f f1 : Addr} {fd d1 : FuncData} (F : Fun K "_law_good_term" "_law_good_term" s_law_good_term f fd) (G_law_good_term : FnOk P w K mg base CX0 (n + 2) f fd ["term", "names"] (spGt n)) (R_law_good_term : Ref K mg "_law_good_term" f fd ["term", "names"])
    (G_law_whole : FnOk P w K mg base CX0 1 f1 d1 ["thing"] spWh) (R_law_whole : Ref K mg "_law_whole" f1 d1 ["thing"]) : FnOk P w K mg base CX0 (n + 3) f fd ["term", "names"] (spGt (n + 1)) := by
  refine F.ok scLgood_term (fun vs H Q E h => ?_) (fun cdv A outer s H vs Q E hr h => ?_)
  · obtain ⟨a, l, t, xs, hd, rfl, _⟩ := h
    rfl
  obtain ⟨a, l, t, xs, hd, rfl, hA, ho, hs, hS, hh, hL, q⟩ := h
  refine ⟨_, (pss_cons (ps_if (PW.pt (pw_or (pt_not (pt_val (pe_callB call_isi (by rfl) T.m_isinstance (by decide +kernel) (pa_cons (pv 0) (pa_cons (pe_bltn (v := .ty "tuple") rfl T.m_tuple (by decide +kernel) rfl) pa_nil))))) (pw_or1 (pt_cmpR op_lt (pe_callB call_len_seq (by rfl) T.m_len PySem.boot_len (pa_cons (pv 0) pa_nil)) pe_int (nomark _))))) (pss_one (ps_ret pe_bl)) pss_nil)
    (pss_cons (ps_if (pt_cmpR op_eq (pe_ix ix_tup (pv 0) pe_int (fun _ _ => rfl)) pe_str (nomark _)) (pss_one (ps_ret (pe_and (pe_cmpR op_eq (pe_callB call_len_seq (by rfl) T.m_len PySem.boot_len (pa_cons (pv 0) pa_nil)) pe_int (nomark _)) (pe_and (pe_call G_law_whole (hr.mono (by omega)) rfl R_law_whole.m R_law_whole.k R_law_whole.b .nil pass0 (pa_cons (pe_ix ix_tup (pv 0) pe_int (fun _ _ => rfl)) pa_nil)) (pe_one (pe_chain op_le op_lt pe_int (pe_ix ix_tup (pv 0) pe_int (fun _ _ => rfl)) pe_int)))))) pss_nil)
    (pss_cons (ps_if (pt_cmpR op_eq (pe_ix ix_tup (pv 0) pe_int (fun _ _ => rfl)) pe_str (nomark _)) (pss_one (ps_ret (pe_and (pe_cmpR op_eq (pe_callB call_len_seq (by rfl) T.m_len PySem.boot_len (pa_cons (pv 0) pa_nil)) pe_int (nomark _)) (pe_one (pe_cmpR op_in_seq (pe_ix ix_tup (pv 0) pe_int (fun _ _ => rfl)) (pv 1) rfl))))) pss_nil)
    (pss_cons (ps_if (PW.pt (pw_or (pt_cmpR op_notIn_seq (pe_ix ix_tup (pv 0) pe_int (fun _ _ => rfl)) (pe_tup (pa_cons pe_str (pa_cons pe_str pa_nil))) rfl) (pw_or1 (pt_cmpR op_ne (pe_callB call_len_seq (by rfl) T.m_len PySem.boot_len (pa_cons (pv 0) pa_nil)) pe_int (nomark _))))) (pss_one (ps_ret pe_bl)) pss_nil)
    (pss_one (ps_ret (pe_callB (cr_all rfl) (by rfl) T.m_all (by decide +kernel) (pa_cons (pe_lc (own := [("one", 2)]) (g := gName 2) (tt := tYes) (te := tCall (spGt n) [] E0 (tCons (tVar 2) (tCons (tVar 1) tNil))) (by rfl) scLgood_term.nd (pi_tup (pe_slice sl_tupA (pv 0) (po_some pe_int) po_none)) (blkOk_by (own := [("one", 2)]) (N := ["term", "names", "one"]) (sc := defScope s_law_good_term) (by decide +kernel)) (fun _ _ _ _ _ => (pg_name (i := 2) scLgood_term.nd rfl (Or.inl rfl))) (fun _ _ _ _ _ => pts_nil) (fun _ _ _ _ _ => (pe_call G_law_good_term (hr.mono (by omega)) rfl R_law_good_term.m R_law_good_term.k R_law_good_term.b .nil pass0 (pa_cons (pv 2) (pa_cons (pv 1) pa_nil))))) pa_nil)))))))), ?_⟩
  obtain ⟨h, m, k⟩ := t
  obtain ⟨ys, ly, hk⟩ := hA
  obtain ⟨s1, s2⟩ := simple_mk hs
  cases h with
  | num z =>
    obtain ⟨l1, l2⟩ := ly
    have hz : 0 ≤ z ∧ z < 1000 := ho.1
    refine ⟨_, rfl, .ref a, .ty "tuple", .type "tuple", .type "tuple", true, rfl, .ty "tuple", .base (.tup l2), kit_ty (by decide +kernel), _, rfl, ?_⟩
    refine iteF ⟨_, rfl, a, _, rfl, .inr (SqT.of l2), _, _, rfl, rfl, _, rfl, itF (by rfl) ?_⟩
    refine ⟨_, rfl, a, _, _, _, rfl, rfl, SqT.of l2, at0, rfl, _, rfl, itT rfl ?_⟩
    refine ⟨_, rfl, a, _, rfl, .inr (SqT.of l2), rfl, _, rfl, itT rfl ?_⟩
    refine ⟨_, rfl, a, _, _, _, rfl, rfl, SqT.of l2, at1, z, rfl, _, rfl, itT rfl ?_⟩
    refine ⟨_, rfl, a, _, _, _, rfl, rfl, SqT.of l2, at1, _, _, rfl, rfl, _, rfl, ?_⟩
    refine itT (decide_eq_true hz.1) ⟨_, _, rfl, rfl, ?_⟩
    show Q (.bl (decide (z < 1000))) H
    rw [decide_eq_true hz.2]
    exact q H (Same.refl _)
  | nam x =>
    obtain ⟨l1, l2⟩ := ly
    have hx : x ∈ xs := hS.1
    refine ⟨_, rfl, .ref a, .ty "tuple", .type "tuple", .type "tuple", true, rfl, .ty "tuple", .base (.tup l2), kit_ty (by decide +kernel), _, rfl, ?_⟩
    refine iteF ⟨_, rfl, a, _, rfl, .inr (SqT.of l2), _, _, rfl, rfl, _, rfl, itF (by rfl) ?_⟩
    refine ⟨_, rfl, a, _, _, _, rfl, rfl, SqT.of l2, at0, rfl, _, rfl, itF rfl ?_⟩
    refine ⟨_, rfl, a, _, _, _, rfl, rfl, SqT.of l2, at0, rfl, _, rfl, itT rfl ?_⟩
    refine ⟨_, rfl, a, _, rfl, .inr (SqT.of l2), rfl, _, rfl, itT rfl ?_⟩
    refine ⟨_, rfl, a, _, _, _, rfl, rfl, SqT.of l2, at1, _, rfl, l, _, rfl, .inl (SqL.of hL), rfl, flat_strs xs, ?_⟩
    show Q (.bl (inV (.str x) (xs.map V.str))) H
    rw [inV_mem hx]
    exact q H (Same.refl _)
  | plus | less =>
    obtain ⟨l1, l2⟩ := ly
    have l2 : H a = some (.tup (_ :: Rfs ys)) := l2
    have hm : m = 2 := by
      have e : (Rfs ys).length = m := by
        unfold Rfs
        rw [List.length_ofFn]
      exact e.symm.trans l1
    have hlr : (Rfs ys).length = 2 := l1
    have kk : Stk H (Rfs ys) (List.ofFn k) := Stk.fn hk
    refine ⟨_, rfl, .ref a, .ty "tuple", .type "tuple", .type "tuple", true, rfl, .ty "tuple", .base (.tup l2), kit_ty (by decide +kernel), _, rfl, ?_⟩
    refine iteF ⟨_, rfl, a, _, rfl, .inr (SqT.of l2), _, _, rfl, rfl, _, rfl, itF (decide_eq_false (by rw [List.length_cons, hlr]; decide)) ?_⟩
    refine ⟨_, rfl, a, _, _, _, rfl, rfl, SqT.of l2, at0, rfl, _, rfl, itF rfl ?_⟩
    refine ⟨_, rfl, a, _, _, _, rfl, rfl, SqT.of l2, at0, rfl, _, rfl, itF rfl ?_⟩
    refine ⟨_, rfl, a, _, _, _, rfl, rfl, SqT.of l2, at0, sz (by show 2 ≤ 100000; decide), fun t1 ht1 => ?_⟩
    have s1' := same_new ht1 (.tup [V.str "plus", .str "less"])
    have g1 : upd H t1 (.tup [V.str "plus", .str "less"]) t1 = some (.tup [V.str "plus", .str "less"]) := upd_same
    have hL1 := s1' _ _ hL
    have l21 := s1' _ _ l2
    have kk1 := Stk.tk (tk_same s1') kk
    generalize upd H t1 (.tup [V.str "plus", .str "less"]) = H1 at s1' g1 hL1 l21 kk1
    refine ⟨t1, _, rfl, .inr (SqT.of g1), rfl, rfl, _, rfl, itF rfl ?_⟩
    refine ⟨_, rfl, a, _, rfl, .inr (SqT.of l21), rfl, _, rfl, itF (by show (!decide (V.int (((_ :: Rfs ys).length : Nat) : Int) = V.int 3)) = false; rw [List.length_cons, hlr]; rfl) ?_⟩
    refine ⟨_, rfl, _, rfl, ?_⟩
    dsimp only [tNoPart]
    refine slA_of (K := K) (lo := some 1) (hi := none) l21 fun t2 H2 s2' g2 => ?_
    rw [cut1] at g2
    have s02 := s1'.trans s2'
    have kk2 := Stk.tk (tk_same s2') kk1
    have hL2 := s2' _ _ hL1
    refine ⟨t2, rfl, ⟨_, SqT.of g2⟩, fun D hD => lc_tup (K := K) (a := t2) (xs := Rfs ys) (fun i H' => Same H2 H' ∧ H' D = some (.lst ((List.replicate i true).map V.bl))) ⟨same_new hD _, upd_same⟩ ?_ ?_ ?_⟩
    · rintro i H' _ ⟨s3, _⟩
      exact SqT.of (s3 _ _ g2)
    · rintro i x H3 hx ⟨s3, h3⟩
      obtain ⟨ti, hti, b, rfl, hb⟩ := kk2.get hx
      have hmem := mem_of_get hti
      obtain ⟨ii, e⟩ := List.mem_ofFn.mp hmem
      have hz := (List.getElem?_eq_some_iff.mp hx).1
      refine ⟨rfl, ?_⟩
      dsimp only [tYes]
      refine iteT ⟨_, rfl, _, rfl, b, l, ti, xs, hd, rfl, hb.tk (tk_same s3), by rw [← e]; exact ho.2 ii, by rw [← e]; exact s2 ii, by rw [← e]; exact hS.2 ii, by rw [← e]; exact hh ii, s3 _ _ hL2, fun H4 s4 => ?_⟩
      refine ⟨_, s4 _ _ h3, Nat.lt_of_le_of_lt (m := 2) (by rw [List.length_map, List.length_replicate]; omega) (by decide), same_mut (s3.trans s4) hD, ?_⟩
      rw [upd_same, List.replicate_succ', List.map_append]
      rfl
    rintro H3 ⟨s3, h3⟩
    refine ⟨D, _, rfl, SqL.of h3, ?_⟩
    have e : (List.replicate (Rfs ys).length true).all id = true := by rw [hlr]; rfl
    rw [e]
    exact q H3 (s02.trans s3)
  | _ => exact absurd s1 Bool.false_ne_true
theorem no_gt {f : Addr} {fd : FuncData} : FnOk P w K mg base CX0 2 f fd ["term", "names"] (spGt 0) := by
  have no : ∀ vs H Q E, ¬ spGt 0 vs H Q E := fun vs H Q E h => by
    obtain ⟨a, l, t, xs, hd, _, _, _, _, _, h0, _⟩ := h
    exact h0.elim
  exact ⟨fun vs H Q E h => absurd h (no vs H Q E), fun A outer s H args us vs Q E _ _ _ _ h => absurd h (no vs H Q E)⟩
theorem all_gt (T : Txt K mg) {f f1 : Addr} {fd d1 : FuncData} (F : Fun K "_law_good_term" "_law_good_term" s_law_good_term f fd) (R_law_good_term : Ref K mg "_law_good_term" f fd ["term", "names"])
    (G_law_whole : FnOk P w K mg base CX0 1 f1 d1 ["thing"] spWh) (R_law_whole : Ref K mg "_law_whole" f1 d1 ["thing"]) : ∀ n : Nat, FnOk P w K mg base CX0 (n + 2) f fd ["term", "names"] (spGt n)
  | 0 => no_gt
  | n + 1 => ok_gt T F (all_gt T F R_law_good_term G_law_whole R_law_whole n) R_law_good_term G_law_whole R_law_whole
end
end KB

namespace KB
open PySem L2 HT LamX NdefX

theorem But2.trans {a b : Addr} {H H1 H2 : Hp} (e : But2 a b H H1) (f : But2 a b H1 H2) : But2 a b H H2 := fun x o n m h => f x o n m (e x o n m h)
theorem but2_same {a b : Addr} {H H' : Hp} (e : Same H H') : But2 a b H H' := fun x o _ _ h => e x o h
theorem But2.tkL {wl pl : Addr} {H H' : Hp} {ws js : List V} (hw : H wl = some (.lst ws)) (hp : H pl = some (.lst js)) (e : But2 wl pl H H') : TK H H' := fun a xs h => e a _ (fun z => by rw [z, hw] at h; cases h) (fun z => by rw [z, hp] at h; cases h) h
def nowK (hdd wl pl : Addr) : List (Key × V) := [(Sum.inr "heads", .ref hdd), (Sum.inr "words", .ref wl), (Sum.inr "posts", .ref pl)]
theorem now_get {H : Hp} {now hdd wl pl : Addr} (h : H now = some (.dK (nowK hdd wl pl))) : DGet H now (.str "heads") (some (.ref hdd)) ∧ DGet H now (.str "words") (some (.ref wl)) ∧ DGet H now (.str "posts") (some (.ref pl)) :=
  ⟨DGet.k (k := Sum.inr "heads") h, DGet.k (k := Sum.inr "words") h, DGet.k (k := Sum.inr "posts") h⟩
def gpK : List (Key × V) := [(Sum.inr "give", .int 3), (Sum.inr "post", .int 5)]
def lnP : Pt → Int
  | .give _ _ => 3
  | .post _ _ _ _ => 5
  | _ => 4
theorem gp_get (p : Pt) : (valV gpK (Sum.inr (hsP p))).getD (.int 4) = .int (lnP p) := by cases p <;> rfl
theorem PAt.head2 {H : Hp} {p : Pt} {a : Addr} (h : PAt H p a) : ∃ r, H a = some (.tup (.str (hsP p) :: r)) ∧ (((V.str (hsP p) :: r).length : Nat) : Int) = lnP p := by
  cases p with
  | give j t => obtain ⟨b, h1, _⟩ := h; exact ⟨_, h1, rfl⟩
  | ask f ts j => obtain ⟨b, vs, h1, _⟩ := h; exact ⟨_, h1, rfl⟩
  | tell x t p => obtain ⟨b, c, h1, _⟩ := h; exact ⟨_, h1, rfl⟩
  | lett x t p => obtain ⟨b, c, h1, _⟩ := h; exact ⟨_, h1, rfl⟩
  | iff t p q => obtain ⟨b, c, d, h1, _⟩ := h; exact ⟨_, h1, rfl⟩
  | post j x p q => obtain ⟨c, d, h1, _⟩ := h; exact ⟨_, h1, rfl⟩
theorem lnP_ne (p : Pt) : lnP p ≠ 0 := by cases p <;> simp [lnP]
theorem fl_succ {l : List Pt} {i : Nat} {u : Pt} (h : l[i]? = some u) (f : Pt → List Str) : ((l.take (i + 1)).map f).flatten = ((l.take i).map f).flatten ++ f u := by
  obtain ⟨hi, he⟩ := List.getElem?_eq_some_iff.mp h
  rw [List.take_succ_eq_append_getElem hi, he, List.map_append, List.flatten_append]
  show _ ++ (f u ++ []) = _
  rw [List.append_nil]
theorem wP_le : ∀ p : Pt, (wP p).length ≤ pcnt p
  | .give j t => Nat.zero_le _
  | .ask f ts j => Nat.zero_le _
  | .tell x t p => by have := wP_le p; show (wP p).length + 1 ≤ 1 + pcnt p; omega
  | .lett x t p => by have := wP_le p; show (wP p).length + 1 ≤ 1 + pcnt p; omega
  | .iff t p q => by
    have h1 := wP_le p
    have h2 := wP_le q
    show (wP p ++ wP q).length ≤ 1 + pcnt p + pcnt q
    rw [List.length_append]; omega
  | .post j x p q => by
    have h1 := wP_le p
    have h2 := wP_le q
    show (wP p ++ wP q).length + 1 ≤ 1 + pcnt p + pcnt q
    rw [List.length_append]; omega
theorem jP_le : ∀ p : Pt, (jP p).length ≤ pcnt p
  | .give j t => Nat.zero_le _
  | .ask f ts j => Nat.zero_le _
  | .tell x t p => by have := jP_le p; show (jP p).length ≤ 1 + pcnt p; omega
  | .lett x t p => by have := jP_le p; show (jP p).length ≤ 1 + pcnt p; omega
  | .iff t p q => by
    have h1 := jP_le p
    have h2 := jP_le q
    show (jP p ++ jP q).length ≤ 1 + pcnt p + pcnt q
    rw [List.length_append]; omega
  | .post j x p q => by
    have h1 := jP_le p
    have h2 := jP_le q
    show (jP p ++ jP q).length + 1 ≤ 1 + pcnt p + pcnt q
    rw [List.length_append]; omega
section
variable {P : Program} {w : World} {K : PySem.W.Frag} {mg : Str → Option Value} {base : Heap}
/-! ### _law_good_part -/
/-- what stands while parts are looked over -/
structure GpH (H : Hp) (nl hl now wl pl hdd : Addr) (xs hs ws js : List Str) (hF : Str → Option Nat) (kvs : List (Key × V)) : Prop where
  fnl : H nl = some (.lst (xs.map V.str))
  fhl : H hl = some (.lst (hs.map V.str))
  fnow : H now = some (.dK (nowK hdd wl pl))
  fhd : H hdd = some (.dK kvs)
  fhe : ∀ f m, hF f = some m → valV kvs (Sum.inr f) = some (.int (m : Int))
  fwl : H wl = some (.lst (ws.map V.str))
  fpl : H pl = some (.lst (js.map V.str))
  n1 : wl ≠ pl
  n2 : nl ≠ wl
  n3 : nl ≠ pl
  n4 : hl ≠ wl
  n5 : hl ≠ pl
theorem GpH.same {H H' : Hp} {nl hl now wl pl hdd : Addr} {xs hs ws js : List Str} {hF : Str → Option Nat} {kvs : List (Key × V)} (g : GpH H nl hl now wl pl hdd xs hs ws js hF kvs) (s : Same H H') : GpH H' nl hl now wl pl hdd xs hs ws js hF kvs :=
  ⟨s _ _ g.fnl, s _ _ g.fhl, s _ _ g.fnow, s _ _ g.fhd, g.fhe, s _ _ g.fwl, s _ _ g.fpl, g.n1, g.n2, g.n3, g.n4, g.n5⟩
theorem GpH.but {H H' : Hp} {nl hl now wl pl hdd : Addr} {xs hs ws js ws' js' : List Str} {hF : Str → Option Nat} {kvs : List (Key × V)} (g : GpH H nl hl now wl pl hdd xs hs ws js hF kvs) (b : But2 wl pl H H') (h1 : H' wl = some (.lst (ws'.map V.str))) (h2 : H' pl = some (.lst (js'.map V.str))) : GpH H' nl hl now wl pl hdd xs hs ws' js' hF kvs where
  fnl := b _ _ g.n2 g.n3 g.fnl
  fhl := b _ _ g.n4 g.n5 g.fhl
  fnow := b _ _ (fun z => by have := g.fnow; rw [z, g.fwl] at this; cases this) (fun z => by have := g.fnow; rw [z, g.fpl] at this; cases this) g.fnow
  fhd := b _ _ (fun z => by have := g.fhd; rw [z, g.fwl] at this; cases this) (fun z => by have := g.fhd; rw [z, g.fpl] at this; cases this) g.fhd
  fhe := g.fhe
  fwl := h1
  fpl := h2
  n1 := g.n1
  n2 := g.n2
  n3 := g.n3
  n4 := g.n4
  n5 := g.n5
theorem GpH.names {H : Hp} {nl hl now wl pl hdd : Addr} {xs hs ws js : List Str} {hF : Str → Option Nat} {kvs : List (Key × V)} (g : GpH H nl hl now wl pl hdd xs hs ws js hF kvs) {nl' : Addr} {xs' : List Str} (h : H nl' = some (.lst (xs'.map V.str))) (n2 : nl' ≠ wl) (n3 : nl' ≠ pl) : GpH H nl' hl now wl pl hdd xs' hs ws js hF kvs :=
  ⟨h, g.fhl, g.fnow, g.fhd, g.fhe, g.fwl, g.fpl, g.n1, n2, n3, g.n4, g.n5⟩
theorem GpH.hands {H : Hp} {nl hl now wl pl hdd : Addr} {xs hs ws js : List Str} {hF : Str → Option Nat} {kvs : List (Key × V)} (g : GpH H nl hl now wl pl hdd xs hs ws js hF kvs) {hl' : Addr} {hs' : List Str} (h : H hl' = some (.lst (hs'.map V.str))) (n4 : hl' ≠ wl) (n5 : hl' ≠ pl) : GpH H nl hl' now wl pl hdd xs hs' ws js hF kvs :=
  ⟨g.fnl, h, g.fnow, g.fhd, g.fhe, g.fwl, g.fpl, g.n1, g.n2, g.n3, n4, n5⟩
/-- a word more in one of the two lists -/
theorem GpH.word {H : Hp} {nl hl now wl pl hdd : Addr} {xs hs ws js : List Str} {hF : Str → Option Nat} {kvs : List (Key × V)} (g : GpH H nl hl now wl pl hdd xs hs ws js hF kvs) (x : Str) : GpH (upd H wl (.lst (ws.map V.str ++ [.str x]))) nl hl now wl pl hdd xs hs (ws ++ [x]) js hF kvs ∧ But2 wl pl H (upd H wl (.lst (ws.map V.str ++ [.str x]))) := by
  have b : But2 wl pl H (upd H wl (.lst (ws.map V.str ++ [.str x]))) := fun a o n _ h => by rw [upd_ne n]; exact h
  refine ⟨g.but b (by rw [upd_same, List.map_append]; rfl) ?_, b⟩
  rw [upd_ne (Ne.symm g.n1)]
  exact g.fpl
theorem GpH.post {H : Hp} {nl hl now wl pl hdd : Addr} {xs hs ws js : List Str} {hF : Str → Option Nat} {kvs : List (Key × V)} (g : GpH H nl hl now wl pl hdd xs hs ws js hF kvs) (j : Str) : GpH (upd H pl (.lst (js.map V.str ++ [.str j]))) nl hl now wl pl hdd xs hs ws (js ++ [j]) hF kvs ∧ But2 wl pl H (upd H pl (.lst (js.map V.str ++ [.str j]))) := by
  have b : But2 wl pl H (upd H pl (.lst (js.map V.str ++ [.str j]))) := fun a o _ n h => by rw [upd_ne n]; exact h
  refine ⟨g.but b ?_ (by rw [upd_same, List.map_append]; rfl), b⟩
  rw [upd_ne g.n1]
  exact g.fwl
def spGp (n : Nat) : Sp := fun vs H Q _ => ∃ (a nl hl now wl pl hdd : Addr) (p : Pt) (xs hs ws js : List Str) (hF : Str → Option Nat) (kvs : List (Key × V)), vs = [.ref a, .ref nl, .ref hl, .ref now] ∧ PAt H p a ∧ okP hF p xs hs ∧ GpH H nl hl now wl pl hdd xs hs ws js hF kvs ∧ pcnt p ≤ n ∧
  ws.length + pcnt p ≤ 1000 ∧ js.length + pcnt p ≤ 1000 ∧ xs.length + pcnt p ≤ 1000 ∧ hs.length + pcnt p ≤ 1000 ∧
  ∀ H', But2 wl pl H H' → H' wl = some (.lst ((ws ++ wP p).map V.str)) → H' pl = some (.lst ((js ++ jP p).map V.str)) → Q (.bl true) H'
abbrev s_law_good_part : Stmt := top 42
theorem scLgood_part : FnScope ["part", "names", "hands", "now", "one", "both"] ["part", "names", "hands", "now"] (defScope s_law_good_part) := ⟨rfl, rfl, rfl, by decide +kernel, rfl, by decide +kernel, by decide +kernel⟩
theorem ok_gp (T : Txt K mg) {n : Nat} {f f1 : Addr} {fd d1 : FuncData} (F : Fun K "_law_good_part" "_law_good_part" s_law_good_part f fd) (G_law_good_part : FnOk P w K mg base CX0 (n + 5) f fd ["part", "names", "hands", "now"] (spGp n)) (R_law_good_part : Ref K mg "_law_good_part" f fd ["part", "names", "hands", "now"])
    (G_law_good_term : FnOk P w K mg base CX0 4 f1 d1 ["term", "names"] (spGt 2)) (R_law_good_term : Ref K mg "_law_good_term" f1 d1 ["term", "names"]) : FnOk P w K mg base CX0 (n + 6) f fd ["part", "names", "hands", "now"] (spGp (n + 1)) := by
  refine F.ok scLgood_part (fun vs H Q E h => ?_) (fun cdv A outer s H vs Q E hr h => ?_)
  · obtain ⟨a, nl, hl, now, wl, pl, hdd, p, xs, hs, ws, js, hF, kvs, rfl, _⟩ := h
    rfl
  obtain ⟨a, nl, hl, now, wl, pl, hdd, p, xs, hs, ws, js, hF, kvs, rfl, hA, ho, g0, hn, b1, b2, b3, b4, q⟩ := h
  refine ⟨_, (pss_cons (ps_if (PW.pt (pw_or (pt_not (pt_val (pe_callB call_isi (by rfl) T.m_isinstance (by decide +kernel) (pa_cons (pv 0) (pa_cons (pe_bltn (v := .ty "tuple") rfl T.m_tuple (by decide +kernel) rfl) pa_nil))))) (pw_or (pt_cmpR op_eq (pe_callB call_len_seq (by rfl) T.m_len PySem.boot_len (pa_cons (pv 0) pa_nil)) pe_int (nomark _)) (pw_or1 (pt_not (pt_val (pe_callB call_isi (by rfl) T.m_isinstance (by decide +kernel) (pa_cons (pe_ix ix_tup (pv 0) pe_int (fun _ _ => rfl)) (pa_cons (pe_bltn (v := .ty "str") rfl T.m_str (by decide +kernel) rfl) pa_nil))))))))) (pss_one (ps_ret pe_bl)) pss_nil)
    (pss_cons (ps_if (pt_cmpR op_ne (pe_callB call_len_seq (by rfl) T.m_len PySem.boot_len (pa_cons (pv 0) pa_nil)) (pe_dget2 (hu_of hr) (pe_disp (pps_cons pe_str pe_int (pps_cons pe_str pe_int pps_nil)) (by rfl) (by rfl) (fun z => by cases z) (by decide)) (pe_ix ix_tup (pv 0) pe_int (fun _ _ => rfl)) pe_int ⟨rfl, rfl, rfl, rfl⟩) (nomark _)) (pss_one (ps_ret pe_bl)) pss_nil)
    (pss_cons (ps_if (pt_cmpR op_eq (pe_ix ix_tup (pv 0) pe_int (fun _ _ => rfl)) pe_str (nomark _)) (pss_one (ps_ret (pe_and (pe_cmpR op_in_seq (pe_ix ix_tup (pv 0) pe_int (fun _ _ => rfl)) (pv 2) rfl) (pe_one (pe_call G_law_good_term (hr.mono (by omega)) rfl R_law_good_term.m R_law_good_term.k R_law_good_term.b .nil pass0 (pa_cons (pe_ix ix_tup (pv 0) pe_int (fun _ _ => rfl)) (pa_cons (pv 1) pa_nil))))))) pss_nil)
    (pss_cons (ps_if (pt_cmpR op_eq (pe_ix ix_tup (pv 0) pe_int (fun _ _ => rfl)) pe_str (nomark _)) (pss_cons (ps_if (PW.pt (pw_or (pt_not (pt_val (pe_callB call_isi (by rfl) T.m_isinstance (by decide +kernel) (pa_cons (pe_ix ix_tup (pv 0) pe_int (fun _ _ => rfl)) (pa_cons (pe_bltn (v := .ty "tuple") rfl T.m_tuple (by decide +kernel) rfl) pa_nil))))) (pw_or1 (pt_cmpR op_notIn_seq (pe_ix ix_tup (pv 0) pe_int (fun _ _ => rfl)) (pv 2) rfl)))) (pss_one (ps_ret pe_bl)) pss_nil)
    (pss_cons (ps_if (pt_cmpR op_ne (pe_dget2 (hu_of hr) (pe_dget (hu_of hr) (pv 3) pe_str (fun _ _ => rfl)) (pe_ix ix_tup (pv 0) pe_int (fun _ _ => rfl)) (pe_un un_neg pe_int) ⟨rfl, rfl, rfl, rfl⟩) (pe_callB call_len_seq (by rfl) T.m_len PySem.boot_len (pa_cons (pe_ix ix_tup (pv 0) pe_int (fun _ _ => rfl)) pa_nil)) (nomark _)) (pss_one (ps_ret pe_bl)) pss_nil)
    (pss_one (ps_ret (pe_callB (cr_all rfl) (by rfl) T.m_all (by decide +kernel) (pa_cons (pe_lc (own := [("one", 4)]) (g := gName 4) (tt := tYes) (te := tCall (spGt 2) [] E0 (tCons (tVar 4) (tCons (tVar 1) tNil))) (by rfl) scLgood_part.nd (pi_tup (pe_ix ix_tup (pv 0) pe_int (fun _ _ => rfl))) (blkOk_by (own := [("one", 4)]) (N := ["part", "names", "hands", "now", "one", "both"]) (sc := defScope s_law_good_part) (by decide +kernel)) (fun _ _ _ _ _ => (pg_name (i := 4) scLgood_part.nd rfl (Or.inl rfl))) (fun _ _ _ _ _ => pts_nil) (fun _ _ _ _ _ => (pe_call G_law_good_term (hr.mono (by omega)) rfl R_law_good_term.m R_law_good_term.k R_law_good_term.b .nil pass0 (pa_cons (pv 4) (pa_cons (pv 1) pa_nil))))) pa_nil)))))) pss_nil)
    (pss_cons (ps_if (pt_cmpR op_eq (pe_ix ix_tup (pv 0) pe_int (fun _ _ => rfl)) pe_str (nomark _)) (pss_cons (ps_setLc (i := 5) (own := [("one", 4)]) (g := gName 4) (tt := tYes) (te := tCall (spGp n) [] E0 (tCons (tVar 4) (tCons (tVar 1) (tCons (tVar 2) (tCons (tVar 3) tNil))))) (by rfl) scLgood_part.nd rfl rfl (sw_true rfl rfl rfl (by decide +kernel)) (pi_tup (pe_slice sl_tupA (pv 0) (po_some pe_int) po_none)) (blkOk_by (own := [("one", 4)]) (N := ["part", "names", "hands", "now", "one", "both"]) (sc := defScope s_law_good_part) (by decide +kernel)) (fun _ _ _ _ _ => (pg_name (i := 4) scLgood_part.nd rfl (Or.inl rfl))) (fun _ _ _ _ _ => pts_nil) (fun _ _ _ _ _ => (pe_call G_law_good_part (hr.mono (by omega)) rfl R_law_good_part.m R_law_good_part.k R_law_good_part.b .nil pass0 (pa_cons (pv 4) (pa_cons (pv 1) (pa_cons (pv 2) (pa_cons (pv 3) pa_nil)))))))
    (pss_one (ps_ret (pe_and (pe_call G_law_good_term (hr.mono (by omega)) rfl R_law_good_term.m R_law_good_term.k R_law_good_term.b .nil pass0 (pa_cons (pe_ix ix_tup (pv 0) pe_int (fun _ _ => rfl)) (pa_cons (pv 1) pa_nil))) (pe_one (pe_callB (cr_all rfl) (by rfl) T.m_all (by decide +kernel) (pa_cons (pv 5) pa_nil))))))) pss_nil)
    (pss_cons (ps_if (pt_cmpR op_eq (pe_ix ix_tup (pv 0) pe_int (fun _ _ => rfl)) pe_str (nomark _)) (pss_cons (ps_expr (pe_bm PySem.F.plainAttrs_list PySem.F.slot_list_append PySem.F.type_list_append mt_append (pe_dget (hu_of hr) (pv 3) pe_str (fun _ _ => rfl)) (pa_cons (pe_ix ix_tup (pv 0) pe_int (fun _ _ => rfl)) pa_nil)))
    (pss_cons (ps_expr (pe_bm PySem.F.plainAttrs_list PySem.F.slot_list_append PySem.F.type_list_append mt_append (pe_dget (hu_of hr) (pv 3) pe_str (fun _ _ => rfl)) (pa_cons (pe_ix ix_tup (pv 0) pe_int (fun _ _ => rfl)) pa_nil)))
    (pss_cons (ps_set (i := 4) scLgood_part.nd rfl (Or.inl rfl) (pe_call G_law_good_part (hr.mono (by omega)) rfl R_law_good_part.m R_law_good_part.k R_law_good_part.b .nil pass0 (pa_cons (pe_ix ix_tup (pv 0) pe_int (fun _ _ => rfl)) (pa_cons (pe_op op_cat (pv 1) (pe_lst (pa_cons (pe_ix ix_tup (pv 0) pe_int (fun _ _ => rfl)) pa_nil))) (pa_cons (pv 2) (pa_cons (pv 3) pa_nil))))))
    (pss_one (ps_ret (pe_and (pv 4) (pe_one (pe_call G_law_good_part (hr.mono (by omega)) rfl R_law_good_part.m R_law_good_part.k R_law_good_part.b .nil pass0 (pa_cons (pe_ix ix_tup (pv 0) pe_int (fun _ _ => rfl)) (pa_cons (pv 1) (pa_cons (pe_op op_cat (pv 2) (pe_lst (pa_cons (pe_ix ix_tup (pv 0) pe_int (fun _ _ => rfl)) pa_nil))) (pa_cons (pv 3) pa_nil)))))))))))) pss_nil)
    (pss_cons (ps_expr (pe_bm PySem.F.plainAttrs_list PySem.F.slot_list_append PySem.F.type_list_append mt_append (pe_dget (hu_of hr) (pv 3) pe_str (fun _ _ => rfl)) (pa_cons (pe_ix ix_tup (pv 0) pe_int (fun _ _ => rfl)) pa_nil)))
    (pss_cons (ps_if (PW.pt (pw_or (pt_cmpR op_notIn_seq (pe_ix ix_tup (pv 0) pe_int (fun _ _ => rfl)) (pe_tup (pa_cons pe_str (pa_cons pe_str pa_nil))) rfl) (pw_or1 (pt_not (pt_val (pe_call G_law_good_term (hr.mono (by omega)) rfl R_law_good_term.m R_law_good_term.k R_law_good_term.b .nil pass0 (pa_cons (pe_ix ix_tup (pv 0) pe_int (fun _ _ => rfl)) (pa_cons (pv 1) pa_nil)))))))) (pss_one (ps_ret pe_bl)) pss_nil)
    (pss_one (ps_ret (pe_call G_law_good_part (hr.mono (by omega)) rfl R_law_good_part.m R_law_good_part.k R_law_good_part.b .nil pass0 (pa_cons (pe_ix ix_tup (pv 0) pe_int (fun _ _ => rfl)) (pa_cons (pe_op op_cat (pv 1) (pe_lst (pa_cons (pe_ix ix_tup (pv 0) pe_int (fun _ _ => rfl)) pa_nil))) (pa_cons (pv 2) (pa_cons (pv 3) pa_nil))))))))))))))), ?_⟩
  obtain ⟨r, hd, hln⟩ := hA.head2
  refine ⟨_, rfl, .ref a, .ty "tuple", .type "tuple", .type "tuple", true, rfl, .ty "tuple", .base (.tup hd), kit_ty (by decide +kernel), _, rfl, ?_⟩
  refine iteF ⟨_, rfl, a, _, rfl, .inr (SqT.of hd), rfl, _, rfl, itF (decide_eq_false (by rw [hln]; exact fun z => lnP_ne p (V.int.inj z))) ?_⟩
  refine ⟨_, rfl, a, _, _, _, rfl, rfl, SqT.of hd, at0, .str (hsP p), .ty "str", .type "str", .type "str", true, rfl, .ty "str", .base (.str _), kit_ty (by decide +kernel), _, rfl, iteF ?_⟩
  refine ⟨_, rfl, a, _, rfl, .inr (SqT.of hd), ?_⟩
  intro dd hdd0
  have sN := same_new hdd0 (.dK [])
  refine ⟨upd_same, gpK, rfl, by decide, ?_⟩
  rw [show mergeK [] gpK = gpK from rfl]
  have s1 : Same H (upd (upd H dd (.dK [])) dd (.dK gpK)) := same_mut sN hdd0
  have g1 : upd (upd H dd (.dK [])) dd (.dK gpK) dd = some (.dK gpK) := upd_same
  generalize upd (upd H dd (.dK [])) dd (.dK gpK) = H1 at s1 g1
  refine ⟨dd, rfl, .inl ⟨_, .inl g1⟩, _, rfl, a, _, _, _, rfl, rfl, SqT.of (s1 _ _ hd), at0, _, DGet.k (k := Sum.inr (hsP p)) g1, ?_⟩
  rw [gp_get, hln]
  refine ⟨rfl, _, rfl, itF (by rw [decide_eq_true rfl]; rfl) ?_⟩
  have q1 : ∀ H', But2 wl pl H1 H' → H' wl = some (.lst ((ws ++ wP p).map V.str)) → H' pl = some (.lst ((js ++ jP p).map V.str)) → Q (.bl true) H' := fun H' b => q H' ((but2_same s1).trans b)
  have G1 := g0.same s1
  have A1 := PAt.tk (tk_same s1) hA
  clear q g0 hA hd sN g1 hdd0
  cases p with
  | give j t =>
    obtain ⟨b, h1, h2⟩ := A1
    refine ⟨_, rfl, a, _, _, _, rfl, rfl, SqT.of h1, at0, rfl, _, rfl, itT rfl ?_⟩
    refine ⟨_, rfl, a, _, _, _, rfl, rfl, SqT.of h1, at1, _, rfl, hl, _, rfl, .inl (SqL.of G1.fhl), rfl, flat_strs hs, inV (.str j) (hs.map V.str), rfl, ?_⟩
    rw [inV_mem ho.1]
    refine itT rfl ⟨_, rfl, a, _, _, _, rfl, rfl, SqT.of h1, at2, _, rfl, b, nl, t, xs, hF, rfl, h2, ho.2.ok, ho.2.si, ho.2.sc, ho.2.ht, G1.fnl, fun H' s' => ?_⟩
    refine q1 H' (but2_same s') ?_ ?_
    · rw [show wP (.give j t) = [] from rfl, List.append_nil]; exact s' _ _ G1.fwl
    · rw [show jP (.give j t) = [] from rfl, List.append_nil]; exact s' _ _ G1.fpl
  | ask g ts j =>
    obtain ⟨b, vs, h1, h2, h3⟩ := A1
    obtain ⟨o1, o2, o3, o4, o5⟩ := ho
    refine ⟨_, rfl, a, _, _, _, rfl, rfl, SqT.of h1, at0, rfl, _, rfl, itF rfl ?_⟩
    refine ⟨_, rfl, a, _, _, _, rfl, rfl, SqT.of h1, at0, rfl, _, rfl, itT rfl ?_⟩
    refine ⟨_, rfl, a, _, _, _, rfl, rfl, SqT.of h1, at2, .ref b, .ty "tuple", .type "tuple", .type "tuple", true, rfl, .ty "tuple", .base (.tup h2), kit_ty (by decide +kernel), _, rfl, ?_⟩
    refine iteF ⟨_, rfl, a, _, _, _, rfl, rfl, SqT.of h1, at3, _, rfl, hl, _, rfl, .inl (SqL.of G1.fhl), rfl, flat_strs hs, _, rfl, itF (by show (!inV (.str j) (hs.map V.str)) = false; rw [inV_mem o1]; rfl) ?_⟩
    refine ⟨_, rfl, now, _, rfl, (now_get G1.fnow).1, hdd, rfl, .inl ⟨_, .inl G1.fhd⟩, _, rfl, a, _, _, _, rfl, rfl, SqT.of h1, at1, 1, rfl, _, DGet.k (k := Sum.inr g) G1.fhd, ?_⟩
    rw [G1.fhe g _ o3]
    have hvl := h3.len
    refine ⟨_, rfl, a, _, _, _, rfl, rfl, SqT.of h1, at2, b, _, rfl, .inr (SqT.of h2), rfl, _, rfl, itF (by show (!decide (V.int (ts.length : Int) = V.int (vs.length : Int))) = false; rw [hvl, decide_eq_true rfl]; rfl) ?_⟩
    refine ⟨_, rfl, a, _, _, _, rfl, rfl, SqT.of h1, at2, b, rfl, ⟨_, SqT.of h2⟩, fun D hD => lc_tup (K := K) (a := b) (xs := vs) (fun i H' => Same H1 H' ∧ H' D = some (.lst ((List.replicate i true).map V.bl))) ⟨same_new hD _, upd_same⟩ ?_ ?_ ?_⟩
    · rintro i H' _ ⟨s3, _⟩
      exact SqT.of (s3 _ _ h2)
    · rintro i x H3 hx ⟨s3, g3⟩
      obtain ⟨ti, hti, c, rfl, hc⟩ := h3.get hx
      have hmem := mem_of_get hti
      have o := o5 ti hmem
      have hz := (List.getElem?_eq_some_iff.mp hx).1
      refine ⟨rfl, ?_⟩
      dsimp only [tYes]
      refine iteT ⟨_, rfl, _, rfl, c, nl, ti, xs, hF, rfl, hc.tk (tk_same s3), o.ok, o.si, o.sc, o.ht, s3 _ _ G1.fnl, fun H4 s4 => ?_⟩
      refine ⟨_, s4 _ _ g3, Nat.lt_of_le_of_lt (m := 4) (by rw [List.length_map, List.length_replicate]; omega) (by decide), same_mut (s3.trans s4) hD, ?_⟩
      rw [upd_same, List.replicate_succ', List.map_append]
      rfl
    rintro H3 ⟨s3, g3⟩
    refine ⟨D, _, rfl, SqL.of g3, ?_⟩
    have e : (List.replicate vs.length true).all id = true := by simp
    rw [e]
    refine q1 H3 (but2_same s3) ?_ ?_
    · rw [show wP (.ask g ts j) = [] from rfl, List.append_nil]; exact s3 _ _ G1.fwl
    · rw [show jP (.ask g ts j) = [] from rfl, List.append_nil]; exact s3 _ _ G1.fpl
  | tell x t p =>
    obtain ⟨b, c, h1, h2, h3⟩ := A1
    obtain ⟨o1, o2, o3⟩ := ho
    have hcp : pcnt (.tell x t p) = 1 + pcnt p := rfl
    refine ⟨_, rfl, a, _, _, _, rfl, rfl, SqT.of h1, at0, rfl, _, rfl, itF rfl ?_⟩
    refine ⟨_, rfl, a, _, _, _, rfl, rfl, SqT.of h1, at0, rfl, _, rfl, itF rfl ?_⟩
    refine ⟨_, rfl, a, _, _, _, rfl, rfl, SqT.of h1, at0, rfl, _, rfl, itF rfl ?_⟩
    refine ⟨_, rfl, a, _, _, _, rfl, rfl, SqT.of h1, at0, rfl, _, rfl, itF rfl ?_⟩
    refine ⟨_, rfl, now, _, rfl, (now_get G1.fnow).2.1, .inl ⟨rfl, _, SqL.of G1.fwl⟩, _, rfl, a, _, _, _, rfl, rfl, SqT.of h1, at1, wl, _, _, rfl, rfl, G1.fwl, Nat.lt_of_le_of_lt (m := 1000) (by rw [List.length_map]; omega) (by decide), ?_⟩
    obtain ⟨G2, e2⟩ := G1.word x
    have tk2 : TK H1 (upd H1 wl (.lst (ws.map V.str ++ [.str x]))) := tk_put G1.fwl
    generalize upd H1 wl (.lst (ws.map V.str ++ [.str x])) = H2 at G2 e2 tk2
    have h12 := tk2 _ _ h1
    refine ⟨_, rfl, a, _, _, _, rfl, rfl, SqT.of h12, at0, sz (by show 2 ≤ 100000; decide), fun t1 ht1 => ?_⟩
    have s3 := same_new ht1 (.tup [V.str "tell", .str "let"])
    have g3 : upd H2 t1 (.tup [V.str "tell", .str "let"]) t1 = some (.tup [V.str "tell", .str "let"]) := upd_same
    generalize upd H2 t1 (.tup [V.str "tell", .str "let"]) = H3 at s3 g3
    refine ⟨t1, _, rfl, .inr (SqT.of g3), rfl, rfl, _, rfl, itF rfl ?_⟩
    have tk3 := tk2.trans (tk_same s3)
    refine ⟨_, rfl, a, _, _, _, rfl, rfl, SqT.of (s3 _ _ h12), at2, _, rfl, b, nl, t, xs, hF, rfl, h2.tk tk3, o2.ok, o2.si, o2.sc, o2.ht, s3 _ _ G2.fnl, fun H4 s4 => ⟨_, rfl, iteF ?_⟩⟩
    have s34 := s3.trans s4
    have G4 := G2.same s34
    have h14 := s34 _ _ h12
    refine ⟨_, rfl, a, _, _, _, rfl, rfl, SqT.of h14, at3, _, rfl, _, rfl, a, _, _, _, rfl, rfl, SqT.of h14, at1, sz (by show 1 ≤ 100000; decide), fun l1 hl1 => ?_⟩
    have s5 := same_new hl1 (.lst [.str x])
    have g5 : upd H4 l1 (.lst [.str x]) l1 = some (.lst [V.str x]) := upd_same
    generalize upd H4 l1 (.lst [.str x]) = H5 at s5 g5
    have G5 := G4.same s5
    refine ⟨nl, l1, _, _, rfl, rfl, G5.fnl, g5, sz (by rw [List.length_map, List.length_singleton]; omega), fun l2 hl2 => ?_⟩
    have s6 := same_new hl2 (.lst (xs.map V.str ++ [.str x]))
    have g6 : upd H5 l2 (.lst (xs.map V.str ++ [.str x])) l2 = some (.lst ((xs ++ [x]).map V.str)) := by rw [upd_same, List.map_append]; rfl
    have G6 := (G5.same s6).names g6 (fun z => by rw [z, G5.fwl] at hl2; cases hl2) (fun z => by rw [z, G5.fpl] at hl2; cases hl2)
    generalize upd H5 l2 (.lst (xs.map V.str ++ [.str x])) = H6 at s6 g6 G6
    have s46 := s4.trans (s5.trans s6)
    refine ⟨_, rfl, _, rfl, c, l2, hl, now, wl, pl, hdd, p, xs ++ [x], hs, ws ++ [x], js, hF, kvs, rfl, PAt.tk (tk3.trans (tk_same s46)) h3, o3, G6, by omega, by rw [List.length_append, List.length_singleton]; omega, by omega, by rw [List.length_append, List.length_singleton]; omega, by omega, fun H7 b7 w7 p7 => ?_⟩
    refine q1 H7 (e2.trans ((but2_same (s3.trans s46)).trans b7)) ?_ p7
    rw [w7, List.append_assoc]
    rfl
  | lett x t p =>
    obtain ⟨b, c, h1, h2, h3⟩ := A1
    obtain ⟨o1, o2, o3⟩ := ho
    have hcp : pcnt (.lett x t p) = 1 + pcnt p := rfl
    refine ⟨_, rfl, a, _, _, _, rfl, rfl, SqT.of h1, at0, rfl, _, rfl, itF rfl ?_⟩
    refine ⟨_, rfl, a, _, _, _, rfl, rfl, SqT.of h1, at0, rfl, _, rfl, itF rfl ?_⟩
    refine ⟨_, rfl, a, _, _, _, rfl, rfl, SqT.of h1, at0, rfl, _, rfl, itF rfl ?_⟩
    refine ⟨_, rfl, a, _, _, _, rfl, rfl, SqT.of h1, at0, rfl, _, rfl, itF rfl ?_⟩
    refine ⟨_, rfl, now, _, rfl, (now_get G1.fnow).2.1, .inl ⟨rfl, _, SqL.of G1.fwl⟩, _, rfl, a, _, _, _, rfl, rfl, SqT.of h1, at1, wl, _, _, rfl, rfl, G1.fwl, Nat.lt_of_le_of_lt (m := 1000) (by rw [List.length_map]; omega) (by decide), ?_⟩
    obtain ⟨G2, e2⟩ := G1.word x
    have tk2 : TK H1 (upd H1 wl (.lst (ws.map V.str ++ [.str x]))) := tk_put G1.fwl
    generalize upd H1 wl (.lst (ws.map V.str ++ [.str x])) = H2 at G2 e2 tk2
    have h12 := tk2 _ _ h1
    refine ⟨_, rfl, a, _, _, _, rfl, rfl, SqT.of h12, at0, sz (by show 2 ≤ 100000; decide), fun t1 ht1 => ?_⟩
    have s3 := same_new ht1 (.tup [V.str "tell", .str "let"])
    have g3 : upd H2 t1 (.tup [V.str "tell", .str "let"]) t1 = some (.tup [V.str "tell", .str "let"]) := upd_same
    generalize upd H2 t1 (.tup [V.str "tell", .str "let"]) = H3 at s3 g3
    refine ⟨t1, _, rfl, .inr (SqT.of g3), rfl, rfl, _, rfl, itF rfl ?_⟩
    have tk3 := tk2.trans (tk_same s3)
    refine ⟨_, rfl, a, _, _, _, rfl, rfl, SqT.of (s3 _ _ h12), at2, _, rfl, b, nl, t, xs, hF, rfl, h2.tk tk3, o2.ok, o2.si, o2.sc, o2.ht, s3 _ _ G2.fnl, fun H4 s4 => ⟨_, rfl, iteF ?_⟩⟩
    have s34 := s3.trans s4
    have G4 := G2.same s34
    have h14 := s34 _ _ h12
    refine ⟨_, rfl, a, _, _, _, rfl, rfl, SqT.of h14, at3, _, rfl, _, rfl, a, _, _, _, rfl, rfl, SqT.of h14, at1, sz (by show 1 ≤ 100000; decide), fun l1 hl1 => ?_⟩
    have s5 := same_new hl1 (.lst [.str x])
    have g5 : upd H4 l1 (.lst [.str x]) l1 = some (.lst [V.str x]) := upd_same
    generalize upd H4 l1 (.lst [.str x]) = H5 at s5 g5
    have G5 := G4.same s5
    refine ⟨nl, l1, _, _, rfl, rfl, G5.fnl, g5, sz (by rw [List.length_map, List.length_singleton]; omega), fun l2 hl2 => ?_⟩
    have s6 := same_new hl2 (.lst (xs.map V.str ++ [.str x]))
    have g6 : upd H5 l2 (.lst (xs.map V.str ++ [.str x])) l2 = some (.lst ((xs ++ [x]).map V.str)) := by rw [upd_same, List.map_append]; rfl
    have G6 := (G5.same s6).names g6 (fun z => by rw [z, G5.fwl] at hl2; cases hl2) (fun z => by rw [z, G5.fpl] at hl2; cases hl2)
    generalize upd H5 l2 (.lst (xs.map V.str ++ [.str x])) = H6 at s6 g6 G6
    have s46 := s4.trans (s5.trans s6)
    refine ⟨_, rfl, _, rfl, c, l2, hl, now, wl, pl, hdd, p, xs ++ [x], hs, ws ++ [x], js, hF, kvs, rfl, PAt.tk (tk3.trans (tk_same s46)) h3, o3, G6, by omega, by rw [List.length_append, List.length_singleton]; omega, by omega, by rw [List.length_append, List.length_singleton]; omega, by omega, fun H7 b7 w7 p7 => ?_⟩
    refine q1 H7 (e2.trans ((but2_same (s3.trans s46)).trans b7)) ?_ p7
    rw [w7, List.append_assoc]
    rfl
  | iff t p p2 =>
    obtain ⟨b, c, d, h1, h2, h3, h4⟩ := A1
    obtain ⟨o1, o2, o3⟩ := ho
    have hcp : pcnt (.iff t p p2) = 1 + pcnt p + pcnt p2 := rfl
    refine ⟨_, rfl, a, _, _, _, rfl, rfl, SqT.of h1, at0, rfl, _, rfl, itF rfl ?_⟩
    refine ⟨_, rfl, a, _, _, _, rfl, rfl, SqT.of h1, at0, rfl, _, rfl, itF rfl ?_⟩
    refine ⟨_, rfl, a, _, _, _, rfl, rfl, SqT.of h1, at0, rfl, _, rfl, itT rfl ?_⟩
    refine ⟨_, rfl, _, rfl, ?_⟩
    dsimp only [tNoPart]
    refine slA_of (K := K) (lo := some 2) (hi := none) h1 fun t2 H2 s2 g2 => ?_
    rw [cut2] at g2
    have G2 := G1.same s2
    refine ⟨t2, rfl, ⟨_, SqT.of g2⟩, fun D hD => lc_tup (K := K) (a := t2) (xs := [.ref c, .ref d]) (fun i H' => But2 wl pl H2 H' ∧ H' D = some (.lst ((List.replicate i true).map V.bl)) ∧ H' wl = some (.lst ((ws ++ (([p, p2].take i).map wP).flatten).map V.str)) ∧ H' pl = some (.lst ((js ++ (([p, p2].take i).map jP).flatten).map V.str))) ?_ ?_ ?_ ?_⟩
    · have s3 := same_new hD (.lst [])
      refine ⟨but2_same s3, upd_same, ?_, ?_⟩
      · rw [List.take_zero]; show _ = some (HO.lst ((ws ++ []).map V.str)); rw [List.append_nil]; exact s3 _ _ G2.fwl
      · rw [List.take_zero]; show _ = some (HO.lst ((js ++ []).map V.str)); rw [List.append_nil]; exact s3 _ _ G2.fpl
    · rintro i H' _ ⟨b3, _⟩
      exact SqT.of (b3.tkL G2.fwl G2.fpl _ _ g2)
    · rintro i x H3 hx ⟨b3, g3, w3, p3⟩
      have G3 := G2.but b3 w3 p3
      have tk3 : TK H1 H3 := (tk_same s2).trans (b3.tkL G2.fwl G2.fpl)
      have nDw : D ≠ wl := fun z => by rw [z, G2.fwl] at hD; cases hD
      have nDp : D ≠ pl := fun z => by rw [z, G2.fpl] at hD; cases hD
      obtain ⟨u, bu, ex, hu, ou, hbu, hu2⟩ : ∃ (u : Pt) (bu : Addr), x = .ref bu ∧ PAt H3 u bu ∧ okP hF u xs hs ∧ [p, p2][i]? = some u ∧ pcnt u ≤ pcnt p + pcnt p2 ∧ (([p, p2].take i).map wP).flatten.length + pcnt u ≤ pcnt p + pcnt p2 ∧ (([p, p2].take i).map jP).flatten.length + pcnt u ≤ pcnt p + pcnt p2 := by
        match i, hx with
        | 0, hx =>
          exact ⟨p, c, (Option.some.inj hx).symm, PAt.tk tk3 h3, o2, rfl, by omega, by show 0 + _ ≤ _; omega, by show 0 + _ ≤ _; omega⟩
        | 1, hx =>
          have z1 := wP_le p
          have z2 := jP_le p
          exact ⟨p2, d, (Option.some.inj hx).symm, PAt.tk tk3 h4, o3, rfl, by omega, by show (wP p ++ []).length + _ ≤ _; rw [List.append_nil]; omega, by show (jP p ++ []).length + _ ≤ _; rw [List.append_nil]; omega⟩
        | i + 2, hx => exact absurd hx (by simp)
      subst ex
      obtain ⟨hj, hj2⟩ := List.getElem?_eq_some_iff.mp hbu
      obtain ⟨hu3, hu4, hu5⟩ := hu2
      have hi2 : i < 2 := hj
      refine ⟨rfl, ?_⟩
      dsimp only [tYes]
      refine iteT ⟨_, rfl, _, rfl, _, rfl, _, rfl, bu, nl, hl, now, wl, pl, hdd, u, xs, hs, _, _, hF, kvs, rfl, hu, ou, G3, by omega, by rw [List.length_append]; omega, by rw [List.length_append]; omega, by omega, by omega, fun H4 b4 w4 p4 => ?_⟩
      have g4 := b4 _ _ nDw nDp g3
      refine ⟨_, g4, Nat.lt_of_le_of_lt (m := 2) (by rw [List.length_map, List.length_replicate]; omega) (by decide), ?_, ?_, ?_, ?_⟩
      · intro y o n1 n2 hy
        have z := b4 _ _ n1 n2 (b3 _ _ n1 n2 hy)
        have hne : y ≠ D := fun e => by rw [e, hD] at hy; cases hy
        rw [upd_ne hne]
        exact z
      · rw [upd_same, List.replicate_succ', List.map_append]
        rfl
      · rw [upd_ne (Ne.symm nDw), w4, fl_succ hbu wP, List.append_assoc]
      · rw [upd_ne (Ne.symm nDp), p4, fl_succ hbu jP, List.append_assoc]
    rintro H3 ⟨b3, g3, w3, p3⟩
    have G3 := G2.but b3 w3 p3
    have tk3 : TK H1 H3 := (tk_same s2).trans (b3.tkL G2.fwl G2.fpl)
    refine ⟨_, rfl, a, _, _, _, rfl, rfl, SqT.of (tk3 _ _ h1), at1, _, rfl, b, nl, t, xs, hF, rfl, h2.tk tk3, o1.ok, o1.si, o1.sc, o1.ht, G3.fnl, fun H4 s4 => ⟨true, rfl, itT rfl ⟨_, rfl, D, _, rfl, SqL.of (s4 _ _ g3), ?_⟩⟩⟩
    refine q1 H4 ((but2_same s2).trans (b3.trans (but2_same s4))) ?_ ?_
    · rw [s4 _ _ w3]
      show some (HO.lst ((ws ++ (wP p ++ (wP p2 ++ []))).map V.str)) = _
      rw [List.append_nil]
      rfl
    · rw [s4 _ _ p3]
      show some (HO.lst ((js ++ (jP p ++ (jP p2 ++ []))).map V.str)) = _
      rw [List.append_nil]
      rfl
  | post j x p p2 =>
    obtain ⟨c, d, h1, h2, h3⟩ := A1
    obtain ⟨o1, o2, o3, o4⟩ := ho
    have hcp : pcnt (.post j x p p2) = 1 + pcnt p + pcnt p2 := rfl
    have z1 := wP_le p
    have z2 := jP_le p
    refine ⟨_, rfl, a, _, _, _, rfl, rfl, SqT.of h1, at0, rfl, _, rfl, itF rfl ?_⟩
    refine ⟨_, rfl, a, _, _, _, rfl, rfl, SqT.of h1, at0, rfl, _, rfl, itF rfl ?_⟩
    refine ⟨_, rfl, a, _, _, _, rfl, rfl, SqT.of h1, at0, rfl, _, rfl, itF rfl ?_⟩
    refine ⟨_, rfl, a, _, _, _, rfl, rfl, SqT.of h1, at0, rfl, _, rfl, itT rfl ?_⟩
    refine ⟨_, rfl, now, _, rfl, (now_get G1.fnow).2.1, .inl ⟨rfl, _, SqL.of G1.fwl⟩, _, rfl, a, _, _, _, rfl, rfl, SqT.of h1, at2, wl, _, _, rfl, rfl, G1.fwl, Nat.lt_of_le_of_lt (m := 1000) (by rw [List.length_map]; omega) (by decide), ?_⟩
    obtain ⟨G2, e2⟩ := G1.word x
    have tk2 : TK H1 (upd H1 wl (.lst (ws.map V.str ++ [.str x]))) := tk_put G1.fwl
    generalize upd H1 wl (.lst (ws.map V.str ++ [.str x])) = H2 at G2 e2 tk2
    refine ⟨_, rfl, now, _, rfl, (now_get G2.fnow).2.2, .inl ⟨rfl, _, SqL.of G2.fpl⟩, _, rfl, a, _, _, _, rfl, rfl, SqT.of (tk2 _ _ h1), at1, pl, _, _, rfl, rfl, G2.fpl, Nat.lt_of_le_of_lt (m := 1000) (by rw [List.length_map]; omega) (by decide), ?_⟩
    obtain ⟨G3, e3⟩ := G2.post j
    have tk3 : TK H1 (upd H2 pl (.lst (js.map V.str ++ [.str j]))) := tk2.trans (tk_put G2.fpl)
    generalize upd H2 pl (.lst (js.map V.str ++ [.str j])) = H3 at G3 e3 tk3
    have h13 := tk3 _ _ h1
    have e13 := e2.trans e3
    -- one
    refine ⟨_, rfl, a, _, _, _, rfl, rfl, SqT.of h13, at3, _, rfl, _, rfl, a, _, _, _, rfl, rfl, SqT.of h13, at2, sz (by show 1 ≤ 100000; decide), fun l1 hl1 => ?_⟩
    have s5 := same_new hl1 (.lst [.str x])
    have g5 : upd H3 l1 (.lst [.str x]) l1 = some (.lst [V.str x]) := upd_same
    generalize upd H3 l1 (.lst [.str x]) = H5 at s5 g5
    have G5 := G3.same s5
    refine ⟨nl, l1, _, _, rfl, rfl, G5.fnl, g5, sz (by rw [List.length_map, List.length_singleton]; omega), fun l2 hl2 => ?_⟩
    have s6 := same_new hl2 (.lst (xs.map V.str ++ [.str x]))
    have g6 : upd H5 l2 (.lst (xs.map V.str ++ [.str x])) l2 = some (.lst ((xs ++ [x]).map V.str)) := by rw [upd_same, List.map_append]; rfl
    have G6 := G5.same s6
    have G6' := G6.names g6 (fun z => by rw [z, G5.fwl] at hl2; cases hl2) (fun z => by rw [z, G5.fpl] at hl2; cases hl2)
    generalize upd H5 l2 (.lst (xs.map V.str ++ [.str x])) = H6 at s6 g6 G6 G6'
    have s36 := s5.trans s6
    have tk6 := tk3.trans (tk_same s36)
    refine ⟨_, rfl, _, rfl, c, l2, hl, now, wl, pl, hdd, p, xs ++ [x], hs, ws ++ [x], js ++ [j], hF, kvs, rfl, PAt.tk tk6 h2, o3, G6', by omega, by rw [List.length_append, List.length_singleton]; omega, by rw [List.length_append, List.length_singleton]; omega, by rw [List.length_append, List.length_singleton]; omega, by omega, fun H7 b7 w7 p7 => ?_⟩
    have G7 := G6.but b7 w7 p7
    have tk7 := tk6.trans (b7.tkL G6.fwl G6.fpl)
    have h17 := tk7 _ _ h1
    refine ⟨_, rfl, true, rfl, itT rfl ?_⟩
    refine ⟨_, rfl, a, _, _, _, rfl, rfl, SqT.of h17, at4, _, rfl, _, rfl, _, rfl, a, _, _, _, rfl, rfl, SqT.of h17, at1, sz (by show 1 ≤ 100000; decide), fun l3 hl3 => ?_⟩
    have s8 := same_new hl3 (.lst [.str j])
    have g8 : upd H7 l3 (.lst [.str j]) l3 = some (.lst [V.str j]) := upd_same
    generalize upd H7 l3 (.lst [.str j]) = H8 at s8 g8
    have G8 := G7.same s8
    refine ⟨hl, l3, _, _, rfl, rfl, G8.fhl, g8, sz (by rw [List.length_map, List.length_singleton]; omega), fun l4 hl4 => ?_⟩
    have s9 := same_new hl4 (.lst (hs.map V.str ++ [.str j]))
    have g9 : upd H8 l4 (.lst (hs.map V.str ++ [.str j])) l4 = some (.lst ((hs ++ [j]).map V.str)) := by rw [upd_same, List.map_append]; rfl
    have G9 := (G8.same s9).hands g9 (fun z => by rw [z, G8.fwl] at hl4; cases hl4) (fun z => by rw [z, G8.fpl] at hl4; cases hl4)
    generalize upd H8 l4 (.lst (hs.map V.str ++ [.str j])) = H9 at s9 g9 G9
    have s79 := s8.trans s9
    refine ⟨_, rfl, d, nl, l4, now, wl, pl, hdd, p2, xs, hs ++ [j], _, _, hF, kvs, rfl, PAt.tk (tk7.trans (tk_same s79)) h3, o4, G9, by omega, by rw [List.length_append, List.length_append, List.length_singleton]; omega, by rw [List.length_append, List.length_append, List.length_singleton]; omega, by omega, by rw [List.length_append, List.length_singleton]; omega, fun H10 b10 w10 p10 => ?_⟩
    refine q1 H10 (e13.trans ((but2_same s36).trans (b7.trans ((but2_same s79).trans b10)))) ?_ ?_
    · rw [w10, List.append_assoc, List.append_assoc]
      rfl
    · rw [p10, List.append_assoc, List.append_assoc]
      rfl
theorem no_gp {f : Addr} {fd : FuncData} : FnOk P w K mg base CX0 5 f fd ["part", "names", "hands", "now"] (spGp 0) := by
  have no : ∀ vs H Q E, ¬ spGp 0 vs H Q E := fun vs H Q E h => by
    obtain ⟨a, nl, hl, now, wl, pl, hdd, p, xs, hs, ws, js, hF, kvs, _, _, _, _, h0, _⟩ := h
    cases p <;> simp [pcnt] at h0 <;> omega
  exact ⟨fun vs H Q E h => absurd h (no vs H Q E), fun A outer s H args us vs Q E _ _ _ _ h => absurd h (no vs H Q E)⟩
end
end KB

namespace KB.SetS
open PySem PySem.Spec PyProof.Rows

/-! ### a set of many unlike texts -/
/-- the set at a holds the first i of xs -/
def InS (pr : Program) (w : World) (h : Heap) (a : Addr) (xs : List Str) (i : Nat) : Prop := ∃ S : Str → Bool, h.SetOf (PySem.strKind pr w) a S i ∧ ∀ z, S z = true ↔ z ∈ xs.take i
theorem InS.step {pr : Program} {w : World} {h : Heap} {a : Addr} {xs : List Str} {i : Nat} {x : Str} {S : Str → Bool} (hx : xs[i]? = some x) (nd : xs.Nodup) (hm : ∀ z, S z = true ↔ z ∈ xs.take i)
    (hs : h.SetOf (PySem.strKind pr w) a (fun z => S z || decide (z = x)) (if S x = true then i else i + 1)) : InS pr w h a xs (i + 1) := by
  obtain ⟨hi, rfl⟩ := List.getElem?_eq_some_iff.mp hx
  have hno : ¬ S xs[i] = true := fun z => by
    obtain ⟨k, hk, e⟩ := List.mem_iff_getElem.mp ((hm _).mp z)
    rw [List.length_take] at hk
    rw [List.getElem_take] at e
    have := (List.getElem_inj nd).mp e
    omega
  rw [if_neg hno] at hs
  refine ⟨_, hs, fun z => ?_⟩
  rw [Bool.or_eq_true, hm z, List.take_succ_eq_append_getElem hi, List.mem_append, List.mem_singleton, decide_eq_true_iff]
section
variable {pr : Program} {w : World} {A : Around} {R : Result → Shared → Prop} {I : Addr} {fp wr : List Addr} {G : Array GenState → Array GenState → Prop} {n : Nat} {Y : Nat → Value → Prop} {St : Nat → Shared → Prop}
theorem walk_in (W : WalksS pr w A.in1 I fp wr G n Y St) {a : Addr} (ha : a ∉ fp) {xs : List Str} (nd : xs.Nodup) (hn : xs.length = n) (room : n + 1 < scanBound) (hY : ∀ i v, Y i v → ∃ x t, xs[i]? = some x ∧ v = .str x t) (m : Nat) :
    ∀ (i : Nat) (s : Shared), n - i = m → i ≤ n → St i s → InS pr w s.heap a xs i → (∀ s', Moved (a :: wr) G s s' → InS pr w s'.heap a xs n → R (.ok (.ret .none)) s') →
      codeAny (model pr w) A (.builtin "set.update.loop" ⟨[.ref a, .ref I], []⟩) R s := by
  have hw : a ∉ wr := fun z => ha (W.sub _ z)
  have up : ∀ b ∈ wr, b ∈ a :: wr := fun b z => List.mem_cons_of_mem _ z
  have stay : ∀ {s s' : Shared} {i : Nat}, Moved wr G s s' → InS pr w s.heap a xs i → InS pr w s'.heap a xs i := fun mv ⟨S, ⟨o, es, ep, tb, ho, more⟩, z⟩ => ⟨S, ⟨o, es, ep, tb, mv.heap a _ hw ho, more⟩, z⟩
  induction m with
  | zero =>
    intro i s e1 e2 st h0 q
    obtain rfl : i = n := by omega
    refine codeAny_builtin F.entry_set_update_loop ?_
    rw [Around.under_plainId F.plain_set_update_loop _]
    refine wpAny_bind (W.done s _ _ st fun s' mv => wpAny_pure (q s' (mv.mono up) (stay mv h0)))
  | succ m ih =>
    intro i s e1 e2 st h0 q
    refine codeAny_builtin F.entry_set_update_loop ?_
    rw [Around.under_plainId F.plain_set_update_loop _]
    refine wpAny_bind (W.item i s _ _ (by omega) st fun v s' y st' mv => ?_)
    obtain ⟨x, t, hx, rfl⟩ := hY i v y
    obtain ⟨S, hS, hm⟩ := stay mv h0
    refine wpAny_bind (wpAny_holding ?_)
    unfold setAdd
    refine wpAny_holding (wpAny_bind ((PySem.strKind pr w).pyHash (k := x) (strKind_is _ _ _ _) ?_))
    refine wpAny_setAddHashed_of (knd := PySem.strKind pr w) (s := { s' with toks := s'.toks + 1 }) (strKind_is _ _ _ _) rfl hS (by omega) fun h' sb hs => ?_
    refine wpAny_pure ⟨plainId_quiet F.plain_set_update_loop _, ih (i + 1) _ (by omega) (by omega) (W.frame _ s' _ _ st' (Nat.le_succ _) fun b hb o e => ?_) (InS.step hx nd hm hs) fun s2 mv2 hs2 => ?_⟩
    · exact (sb.2 b fun z => ha (z ▸ hb)).trans e
    · refine q s2 (Moved.trans W.gtrans ((mv.mono up).then_heap (Nat.le_succ _) fun b o hb e => ?_) mv2) hs2
      exact (sb.2 b fun z => hb (z ▸ List.mem_cons_self)).trans e
end
end KB.SetS

namespace KB.SetS
open PySem PySem.Spec PyProof.Rows

theorem at_strs : ∀ {us : List Value} {xs : List Str}, StrsAre us xs → ∀ (i : Nat) (v : Value), us[i]? = some v → ∃ x t, xs[i]? = some x ∧ v = .str x t
  | _, _, .nil, i, v, e => by simp at e
  | _, _, .cons x t r, 0, v, e => ⟨x, t, rfl, (Option.some.inj e).symm⟩
  | _, _, .cons x t r, i + 1, v, e => by
    obtain ⟨y, u, h1, h2⟩ := at_strs r i v (by simpa using e)
    exact ⟨y, u, by simpa using h1, h2⟩
/-- the heap with the new, empty set -/
abbrev hE (h : Heap) (led : Bool) : Heap := h.push { cls := .type "set", dict := none, data := .set #[] 0 (.fresh 0 0 led) }
section
variable {pr : Program} {w : World} {A : Around} {E : Value → Shared → Prop} {s : Shared}
theorem inS_new {led : Bool} {o : Obj} : InS pr w ((hE s.heap led).push o) s.heap.objs.size [] 0 := by
  have g : ((hE s.heap led).push o).get? s.heap.objs.size = some { cls := .type "set", dict := none, data := .set #[] 0 (.fresh 0 0 led) } := Heap.get?_push_of_some _ (Heap.get?_push_size _ rfl)
  exact ⟨_, (setObjOf_fresh (knd := PySem.strKind pr w) led).setOf g (by unfold scanBound; omega), fun z => by simp⟩
theorem set_strs {l : Addr} {us : Array Value} {xs : List Str} {Q : Value → Shared → Prop} (hh : A.handled = none) (hl : s.heap.IsList l us) (hx : StrsAre us.toList xs) (nd : xs.Nodup) (room : xs.length + 1 < scanBound)
    (q : ∀ (h' : Heap) (tk : Nat), InS pr w h' s.heap.objs.size xs xs.length → (∀ b o, b < s.heap.objs.size → s.heap.get? b = some o → h'.get? b = some o) → Q (.ref s.heap.objs.size) { s with heap := h', toks := tk }) :
    wpAny (model pr w) A (call (.type "set") [.ref l]) Q E s := by
  have hz : xs.length = us.size := by rw [← StrsAre.len_eq hx, Array.length_toList]
  have hlt : l < s.heap.objs.size := by
    obtain ⟨o, ho, _⟩ := hl
    exact Heap.lt_size ho
  obtain ⟨c, tl, mro⟩ := F.called_set.mro
  have made := F.called_set.made
  have sub := F.called_set.sub
  have nt := F.called_set.notType
  have cc := F.called_set.canCreate
  have tc := F.typeCall_set_1 (.ref l)
  refine wpAny_call (codeAny_of_tree ?_)
  show wpAny _ _ (callAny (.type "set") _) _ _ _
  refine wpAny_pure ⟨Code.quiet_builtin _ (by decide +kernel), codeAny_builtin F.entry_type_call ?_⟩
  rw [Around.under_plain (weight_type_call_type "set" [.ref l] []) rfl]
  repeat (any_goals (first | assumption | wp_step))
  refine codeAny_mono (code_set_new_1 (.ref l) (E := E) (Q₁ := fun v s1 => ∃ led : Bool, v = .ref s.heap.objs.size ∧ s1 = { s with heap := hE s.heap led }) fun led => ⟨led, rfl, rfl⟩) fun r s1 hr => ?_
  cases r with
  | error e => exact hr
  | ok fl =>
    cases fl with
    | ret v =>
      obtain ⟨led, e1, e2⟩ := hr
      subst e1 e2
      have g0 : (hE s.heap led).get? s.heap.objs.size = some { cls := .type "set", dict := none, data := .set #[] 0 (.fresh 0 0 led) } := Heap.get?_push_size _ rfl
      have ty : Shared.TypeIs { s with heap := hE s.heap led } (.ref s.heap.objs.size) "set" := ⟨_, g0, rfl⟩
      have ini := F.called_set.init.lookup
      have bnd := F.called_set.init.bind (.ref s.heap.objs.size)
      repeat (any_goals (first | assumption | wp_step))
      refine codeAny_mono (codeAny_call_builtin (R := wants (fun v s2 => v = .none ∧ ∃ h' tk, s2 = { s with heap := h', toks := tk } ∧ InS pr w h' s.heap.objs.size xs xs.length ∧ ∀ b o, b < s.heap.objs.size → s.heap.get? b = some o → h'.get? b = some o) E)
        F.called_set.init.plain F.entry_set_init (check_set_init_1 ty ?_)) fun r2 s2 hr2 => ?_
      · obtain ⟨⟨oc, od, odt, osl⟩, ho, hc, m, hd⟩ := hl
        dsimp only at hc hd
        subst hc hd
        have ho1 : (hE s.heap led).get? l = some { cls := .type "list", dict := od, data := .seq us m, slots := osl } := Heap.get?_push_of_some _ ho
        have hl1 : (hE s.heap led).IsList l us := ⟨_, ho1, rfl, m, rfl⟩
        have y1 := F.sub_list_set
        have y2 := F.sub_list_frozenset
        have y3 : (Value.type "list" == Value.type "dict") = false := by decide
        unfold Builtin.«set.__init__» noKeywords Builtin.Frozenset.updateFrom
        generalize eI : pyIter = pI
        wp_walk
        subst eI
        refine wpAny_pyIter_list hl1 (wpAny_bind (wpAny_runValue ?_))
        have z1 : l ≠ (hE s.heap led).objs.size := by rw [Heap.size_push]; exact Nat.ne_of_lt (Nat.lt_succ_of_lt hlt)
        have z2 : s.heap.objs.size ∉ [(hE s.heap led).objs.size, l] := by
          rw [Heap.size_push]
          simp only [List.mem_cons, List.not_mem_nil, or_false, not_or]
          exact ⟨Nat.ne_of_lt (Nat.lt_succ_self _), Nat.ne_of_gt hlt⟩
        have hY : ∀ (i : Nat) (v : Value), us[i]? = some v → ∃ x t, xs[i]? = some x ∧ v = .str x t := fun i v e => at_strs hx i v (by rw [Array.getElem?_toList]; exact e)
        refine walk_in ((Walks.list (by simp [hh]) _ l z1 us).toS) z2 nd hz (by omega) hY _ 0 _ rfl (Nat.zero_le _) ⟨⟨_, Heap.get?_push_size _ rfl, rfl, rfl⟩, hl1.push _⟩ ?_ fun s' mv hS => ?_
        · obtain ⟨S, a1, a2⟩ := inS_new (pr := pr) (w := w) (s := s) (led := led) (o := { cls := .type "list_iterator", data := .fields #[.ref l, .int 0 0] })
          exact ⟨S, a1, fun z => by rw [a2 z, List.take_zero, List.take_zero]⟩
        · obtain ⟨h', g', d', tk', os'⟩ := s'
          obtain rfl : g' = s.gens := mv.gens
          obtain rfl : d' = s.drawn := mv.drawn
          obtain rfl : os' = s.os := mv.os
          show wpAny _ _ _ _ _ _
          refine wpAny_pure ?_
          show wpAny _ _ (ret Value.none) _ _ _
          refine wpAny_pure ⟨rfl, h', tk', rfl, by rw [hz]; exact hS, fun b o hb e => ?_⟩
          refine mv.heap b o ?_ (Heap.get?_push_of_some _ (Heap.get?_push_of_some _ e))
          rw [Heap.size_push]
          simp only [List.mem_cons, List.not_mem_nil, or_false, not_or]
          exact ⟨Nat.ne_of_lt hb, Nat.ne_of_lt (Nat.lt_succ_of_lt hb)⟩
      · cases r2 with
        | error e => exact hr2
        | ok f2 =>
          cases f2 with
          | ret v =>
            obtain ⟨e1, h', tk, e2, hS, hk⟩ := hr2
            subst e1 e2
            repeat (any_goals (first | assumption | wp_step))
            exact q _ _ hS hk
          | _ => exact hr2.elim
    | _ => exact hr.elim
end
end KB.SetS
namespace KB
open PySem PySem.Spec PyProof.Rows L2
/-- len(set(xs)) of a list of unlike texts -/
def tLenSetN (K : PySem.W.Frag) (ta : TA) : TE := fun σ H Q => ta σ H fun vs H1 => ∃ l, ∃ xs : List Str, vs = [.ref l] ∧ SqL K H1 l (xs.map V.str) ∧ xs.Nodup ∧ xs.length ≤ 4000 ∧ Q (.int xs.length) H1
theorem pe_lenSetN {X : Cx} {a : Expr} {ta : TA} {p p2 q pos : Pos} (hc : X.calm = true) (hg : Gl X "len") (hm : X.mg "len" = none) (hg2 : Gl X "set") (hm2 : X.mg "set" = none) (ha : PA X [a] ta)
    (na : starEach [a] X.env = (false, eval a X.env) :: starEach [] X.env := by rfl) (hpl : (backTo q (starEach [] X.env)).any (·.1) = false := by rfl) : PE X (.Call (.Name "len" p) [.Call (.Name "set" p2) [a] [] q] [] pos) (tLenSetN X.K ta) := by
  refine ⟨fun pins s σ H Q I h => Call_ (ld_blt I hg hm boot_len ?_)⟩
  refine callWith_builtin1 (args_cons ?_ rfl) rfl rfl
  refine Call_ (ld_blt I hg2 hm2 boot_set ?_)
  refine callWith_type1 (thn (ha.run q pins s σ H _ I h) fun us s1 ⟨vs, H1, I1, r1, q1⟩ => ?_) na hpl
  obtain ⟨l, xs, rfl, hq, nd, hb, q1⟩ := q1
  obtain ⟨u, rfl, ru⟩ := vals1 r1
  cases ru
  obtain ⟨its, r, pl, hz⟩ := I1.list hq
  have hl : its.length = xs.length := by rw [← r.length, List.length_map]
  refine SetS.set_strs (I1.ok.hd hc) pl.isList (strsAre_of r) nd (by unfold scanBound; omega) fun h' tk hS hk => args_nil ?_
  obtain ⟨S, ⟨o, es, ep, t, ho, hex, hd, _, _, _, hf, hn⟩, _⟩ := hS
  have I2 : Inv X pins σ H1 { s1 with heap := h', toks := tk } := I1.kept fun b o e => hk b o (Heap.lt_size e) e
  exact call_len_set ho hex hd hf (by rw [hn]; omega) ⟨.int xs.length, H1, I2.tok _, ⟨_, by rw [hn]⟩, q1⟩
end KB

namespace KB
open PySem L2 HT LamX NdefX

theorem okP_words {hd : Str → Option Nat} : ∀ {p : Pt} {xs hs : List Str}, okP hd p xs hs → (∀ x ∈ wP p, isW x = true) ∧ ∀ j ∈ jP p, isW j = true
  | .give _ _, _, _, _ => ⟨fun _ z => (nomatch z), fun _ z => (nomatch z)⟩
  | .ask _ _ _, _, _, _ => ⟨fun _ z => (nomatch z), fun _ z => (nomatch z)⟩
  | .tell x t p, _, _, h => by
    have i := okP_words h.2.2
    refine ⟨fun y hy => ?_, i.2⟩
    rcases List.mem_cons.mp hy with z | z
    · rw [z]; exact h.1
    · exact i.1 y z
  | .lett x t p, _, _, h => by
    have i := okP_words h.2.2
    refine ⟨fun y hy => ?_, i.2⟩
    rcases List.mem_cons.mp hy with z | z
    · rw [z]; exact h.1
    · exact i.1 y z
  | .iff t p q, _, _, h => by
    have i := okP_words h.2.1
    have i2 := okP_words h.2.2
    refine ⟨fun y hy => ?_, fun y hy => ?_⟩
    · rcases List.mem_append.mp hy with z | z
      · exact i.1 y z
      · exact i2.1 y z
    · rcases List.mem_append.mp hy with z | z
      · exact i.2 y z
      · exact i2.2 y z
  | .post j x p q, _, _, h => by
    have i := okP_words h.2.2.1
    have i2 := okP_words h.2.2.2
    refine ⟨fun y hy => ?_, fun y hy => ?_⟩
    · rcases List.mem_cons.mp hy with z | z
      · rw [z]; exact h.2.1
      · rcases List.mem_append.mp z with z | z
        · exact i.1 y z
        · exact i2.1 y z
    · rcases List.mem_cons.mp hy with z | z
      · rw [z]; exact h.1
      · rcases List.mem_append.mp z with z | z
        · exact i.2 y z
        · exact i2.2 y z
/-- the heads of a book -/
def hdsK (es : List TEr) : List (Key × V) := es.map fun e => (Sum.inr e.1, .int (e.2.1.length : Int))
theorem hds_not {es : List TEr} {f : Str} (h : f ∉ es.map (·.1)) : (hdsK es).any (fun kv => decide (kv.1 = (Sum.inr f : Key))) = false := by
  rw [List.any_eq_false]
  intro kv hkv
  obtain ⟨e, he, rfl⟩ := List.mem_map.mp hkv
  simp only [decide_eq_true_eq]
  exact fun z => h (List.mem_map.mpr ⟨e, he, Sum.inr.inj z⟩)
theorem hds_put {es : List TEr} {e : TEr} (h : e.1 ∉ es.map (·.1)) : putK (hdsK es) (Sum.inr e.1) (.int (e.2.1.length : Int)) = hdsK (es ++ [e]) := by
  unfold putK
  rw [hds_not h]
  show hdsK es ++ [_] = _
  unfold hdsK
  rw [List.map_append]
  rfl
theorem hds_get : ∀ {es : List TEr}, (es.map (·.1)).Nodup → ∀ {e : TEr}, e ∈ es → valV (hdsK es) (Sum.inr e.1) = some (.int (e.2.1.length : Int))
  | [], _, _, h => nomatch h
  | a :: es, nd, e, h => by
    have nd' := List.nodup_cons.mp (show (a.1 :: es.map (·.1)).Nodup from nd)
    unfold valV hdsK
    rw [List.map_cons, List.find?_cons]
    by_cases c : a.1 = e.1
    · rw [show decide ((Sum.inr a.1 : Key) = Sum.inr e.1) = true from decide_eq_true (congrArg Sum.inr c)]
      rcases List.mem_cons.mp h with z | z
      · rw [z]; rfl
      · exact absurd (List.mem_map.mpr ⟨e, z, c.symm⟩) nd'.1
    · rw [show decide ((Sum.inr a.1 : Key) = Sum.inr e.1) = false from decide_eq_false fun z => c (Sum.inr.inj z)]
      rcases List.mem_cons.mp h with z | z
      · exact absurd (by rw [z]) c
      · exact hds_get nd'.2 z
section
variable {P : Program} {w : World} {K : PySem.W.Frag} {mg : Str → Option Value} {base : Heap}
theorem all_gp (T : Txt K mg) {f f1 : Addr} {fd d1 : FuncData} (F : Fun K "_law_good_part" "_law_good_part" s_law_good_part f fd) (R_law_good_part : Ref K mg "_law_good_part" f fd ["part", "names", "hands", "now"])
    (G_law_good_term : FnOk P w K mg base CX0 4 f1 d1 ["term", "names"] (spGt 2)) (R_law_good_term : Ref K mg "_law_good_term" f1 d1 ["term", "names"]) : ∀ n : Nat, FnOk P w K mg base CX0 (n + 5) f fd ["part", "names", "hands", "now"] (spGp n)
  | 0 => no_gp
  | n + 1 => ok_gp T F (all_gp T F R_law_good_part G_law_good_term R_law_good_term n) R_law_good_part G_law_good_term R_law_good_term
/-! ### _law_good -/
def spGood : Sp := fun vs H Q _ => ∃ (p : Addr) (es : List TEr) (us : List V), vs = [.ref p] ∧ TBkAt H es us p ∧ GdTB es ∧ ∀ H', Same H H' → Q (.bl true) H'
abbrev s_law_good : Stmt := top 43
theorem scLgood : FnScope ["turned", "heads", "errand", "name", "names", "body", "now", "some", "word"] ["turned"] (defScope s_law_good) := ⟨rfl, rfl, rfl, by decide +kernel, rfl, by decide +kernel, by decide +kernel⟩
theorem ok_good (T : Txt K mg) (mset : mg "set" = none) {f f1 f2 : Addr} {fd d1 d2 : FuncData} (F : Fun K "_law_good" "_law_good" s_law_good f fd) (G_law_good_part : FnOk P w K mg base CX0 18 f1 d1 ["part", "names", "hands", "now"] (spGp 13)) (R_law_good_part : Ref K mg "_law_good_part" f1 d1 ["part", "names", "hands", "now"])
    (G_law_is_word : FnOk P w K mg base CX0 1 f2 d2 ["thing"] spIw) (R_law_is_word : Ref K mg "_law_is_word" f2 d2 ["thing"]) : FnOk P w K mg base CX0 19 f fd ["turned"] spGood := by
  refine F.ok scLgood (fun vs H Q E h => ?_) (fun cdv A outer s H vs Q E hr h => ?_)
  · obtain ⟨p, es, us, rfl, _⟩ := h
    rfl
  obtain ⟨p, es, us, rfl, hB, hG, q⟩ := h
  refine ⟨_, (pss_cons (ps_if (pt_not (pt_val (pe_callB call_isi (by rfl) T.m_isinstance (by decide +kernel) (pa_cons (pv 0) (pa_cons (pe_bltn (v := .ty "tuple") rfl T.m_tuple (by decide +kernel) rfl) pa_nil))))) (pss_one (ps_ret pe_bl)) pss_nil)
    (pss_cons (ps_set (i := 1) scLgood.nd rfl (Or.inl rfl) pe_dnewK)
    (pss_cons (ps_for PassesOwn.never rfl (pi_tup (pv 0)) (pg_name (i := 2) scLgood.nd rfl (Or.inl rfl)) (pss_cons (ps_if (PW.pt (pw_or (pt_not (pt_val (pe_callB call_isi (by rfl) T.m_isinstance (by decide +kernel) (pa_cons (pv 2) (pa_cons (pe_bltn (v := .ty "tuple") rfl T.m_tuple (by decide +kernel) rfl) pa_nil))))) (pw_or (pt_cmpR op_ne (pe_callB call_len_seq (by rfl) T.m_len PySem.boot_len (pa_cons (pv 2) pa_nil)) pe_int (nomark _)) (pw_or1 (pt_not (pt_val (pe_callB call_isi (by rfl) T.m_isinstance (by decide +kernel) (pa_cons (pe_ix ix_tup (pv 2) pe_int (fun _ _ => rfl)) (pa_cons (pe_bltn (v := .ty "tuple") rfl T.m_tuple (by decide +kernel) rfl) pa_nil))))))))) (pss_one (ps_ret pe_bl)) pss_nil)
    (pss_one (ps_dput (hu_of hr) (pv 1) (pe_ix ix_tup (pv 2) pe_int (fun _ _ => rfl)) (pe_callB call_len_seq (by rfl) T.m_len PySem.boot_len (pa_cons (pe_ix ix_tup (pv 2) pe_int (fun _ _ => rfl)) pa_nil)) rfl))))
    (pss_cons (ps_for PassesOwn.never rfl (pi_tup (pv 0)) (pg_tup rfl (pgs_cons (pg_name (i := 3) scLgood.nd rfl (Or.inl rfl)) (pgs_cons (pg_name (i := 4) scLgood.nd rfl (Or.inl rfl)) (pgs_cons (pg_name (i := 5) scLgood.nd rfl (Or.inl rfl)) pgs_nil)))) (pss_cons (ps_set (i := 6) scLgood.nd rfl (Or.inl rfl) (pe_disp (pps_cons pe_str (pv 1) (pps_cons pe_str (pe_callTy call_list_of (by rfl) T.m_list (by decide +kernel) (pa_cons (pv 4) pa_nil)) (pps_cons pe_str (pe_lst pa_nil) pps_nil))) (by rfl) (by rfl) (fun z => by cases z) (by decide)))
    (pss_cons (ps_if (pt_not (pt_val (pe_call G_law_good_part (hr.mono (by omega)) rfl R_law_good_part.m R_law_good_part.k R_law_good_part.b .nil pass0 (pa_cons (pv 5) (pa_cons (pe_callTy call_list_of (by rfl) T.m_list (by decide +kernel) (pa_cons (pv 4) pa_nil)) (pa_cons (pe_lst (pa_cons pe_str pa_nil)) (pa_cons (pv 6) pa_nil))))))) (pss_one (ps_ret pe_bl)) pss_nil)
    (pss_one (ps_for PassesOwn.never rfl (pi_list (pe_lst (pa_cons (pe_dget (hu_of hr) (pv 6) pe_str (fun _ _ => rfl)) (pa_cons (pe_dget (hu_of hr) (pv 6) pe_str (fun _ _ => rfl)) pa_nil)))) (pg_name (i := 7) scLgood.nd rfl (Or.inl rfl)) (pss_one (ps_if (PW.pt (pw_or (pt_not (pt_val (pe_callB (cr_all rfl) (by rfl) T.m_all (by decide +kernel) (pa_cons (pe_lc (own := [("word", 8)]) (g := gName 8) (tt := tYes) (te := tCall spIw [] E0 (tCons (tVar 8) tNil)) (by rfl) scLgood.nd (pi_list (pv 7)) (blkOk_by (own := [("word", 8)]) (N := ["turned", "heads", "errand", "name", "names", "body", "now", "some", "word"]) (sc := defScope s_law_good) (by decide +kernel)) (fun _ _ _ _ _ => (pg_name (i := 8) scLgood.nd rfl (Or.inl rfl))) (fun _ _ _ _ _ => pts_nil) (fun _ _ _ _ _ => (pe_call G_law_is_word (hr.mono (by omega)) rfl R_law_is_word.m R_law_is_word.k R_law_is_word.b .nil pass0 (pa_cons (pv 8) pa_nil)))) pa_nil)))) (pw_or1 (pt_cmpR op_lt (pe_lenSetN (by rfl) (by rfl) T.m_len (by rfl) mset (pa_cons (pv 7) pa_nil)) (pe_callB call_len_seq (by rfl) T.m_len PySem.boot_len (pa_cons (pv 7) pa_nil)) (nomark _))))) (pss_one (ps_ret pe_bl)) pss_nil)))))))
    (pss_one (ps_ret (pe_cmpR op_eq (pe_callB call_lenD (by rfl) T.m_len PySem.boot_len (pa_cons (pv 1) pa_nil)) (pe_callB call_len_seq (by rfl) T.m_len PySem.boot_len (pa_cons (pv 0) pa_nil)) (nomark _)))))))), ?_⟩
  obtain ⟨hF, hE, hFn⟩ := hG.er
  have hl6 := hG.len.2
  have hus := hB.2.len
  refine ⟨_, rfl, .ref p, .ty "tuple", .type "tuple", .type "tuple", true, rfl, .ty "tuple", .base (.tup hB.1), kit_ty (by decide +kernel), _, rfl, ?_⟩
  refine iteF ?_
  intro hd hhd
  have s0 := same_new hhd (.dK [])
  have g0 : upd H hd (.dK []) hd = some (.dK []) := upd_same
  generalize upd H hd (.dK []) = H0 at s0 g0
  -- heads
  refine ⟨_, rfl, p, rfl, ⟨_, SqT.of (s0 _ _ hB.1)⟩, for_tup (xs := us) (fun i σ H' => ∃ o2, σ = [some (.ref p), some (.ref hd), o2, none, none, none, none, none, none] ∧ Same H H' ∧ H' hd = some (.dK (hdsK (es.take i)))) ⟨_, rfl, s0, by rw [List.take_zero]; exact g0⟩ ?_ ?_ ?_⟩
  · rintro i σ H' _ ⟨o2, rfl, s1, _⟩
    exact SqT.of (s1 _ _ hB.1)
  · rintro i x σ H1 hx ⟨o2, rfl, s1, g1⟩
    obtain ⟨e, he, qa, r, b, rfl, k1, k2, k3⟩ := hB.2.get hx
    obtain ⟨hj, hj2⟩ := List.getElem?_eq_some_iff.mp he
    have k1' := s1 _ _ k1
    have k2' := s1 _ _ k2
    refine ⟨_, rfl, .ref qa, .ty "tuple", .type "tuple", .type "tuple", true, rfl, .ty "tuple", .base (.tup k1'), kit_ty (by decide +kernel), _, rfl, ?_⟩
    refine iteF ⟨_, rfl, qa, _, rfl, .inr (SqT.of k1'), rfl, _, rfl, itF (by rfl) ?_⟩
    refine ⟨_, rfl, qa, _, _, _, rfl, rfl, SqT.of k1', at1, .ref r, .ty "tuple", .type "tuple", .type "tuple", true, rfl, .ty "tuple", .base (.tup k2'), kit_ty (by decide +kernel), _, rfl, iteF ?_⟩
    have hnew : e.1 ∉ (es.take i).map (·.1) := fun z => by
      obtain ⟨k, hk, ek⟩ := List.mem_iff_getElem.mp z
      rw [List.length_map, List.length_take] at hk
      rw [List.getElem_map, List.getElem_take] at ek
      have h1 : (es.map (·.1))[k]'(by rw [List.length_map]; omega) = (es.map (·.1))[i]'(by rw [List.length_map]; omega) := by
        rw [List.getElem_map, List.getElem_map, ek, hj2]
      have := (List.getElem_inj hG.nd).mp h1
      omega
    have hkl : (hdsK (es.take i)).length ≤ 6 := by
      unfold hdsK
      rw [List.length_map, List.length_take]
      omega
    refine ⟨_, rfl, qa, _, _, _, rfl, rfl, SqT.of k1', at1, r, _, rfl, .inr (SqT.of k2'), ?_⟩
    refine ⟨_, rfl, _, rfl, qa, _, _, _, rfl, rfl, SqT.of k1', at0, hd, _, rfl, DPut.k (k := Sum.inr e.1) g1 (Nat.lt_of_le_of_lt hkl (by decide)), ?_⟩
    refine ⟨_, rfl, same_mut s1 hhd, ?_⟩
    rw [upd_same, List.length_map, hds_put hnew, List.take_succ_eq_append_getElem hj, hj2]
  rintro σ H1 ⟨o2, rfl, s1, g1⟩
  rw [hus, List.take_length] at g1
  -- each errand
  refine ⟨_, rfl, p, rfl, ⟨_, SqT.of (s1 _ _ hB.1)⟩, for_tup (xs := us) (fun i σ H' => ∃ o3 o4 o5 o6 o7, σ = [some (.ref p), some (.ref hd), o2, o3, o4, o5, o6, o7, none] ∧ Same H1 H') ⟨_, _, _, _, _, rfl, Same.refl _⟩ ?_ ?_ ?_⟩
  · rintro i σ H' _ ⟨o3, o4, o5, o6, o7, rfl, s2⟩
    exact SqT.of (s2 _ _ (s1 _ _ hB.1))
  · rintro i x σ H2 hx ⟨o3, o4, o5, o6, o7, rfl, s2⟩
    obtain ⟨e, he, qa, r, b, rfl, k1, k2, k3⟩ := hB.2.get hx
    have hee := mem_of_get he
    have gE := hE e hee
    have s02 := s1.trans s2
    have k1' := s02 _ _ k1
    have k2' := s02 _ _ k2
    have k3' := PAt.tk (tk_same s02) k3
    refine ⟨qa, _, rfl, SqT.of k1', rfl, _, _, rfl, _, _, rfl, _, _, rfl, rfl, ?_⟩
    intro nd hnd
    have t1 := same_new hnd (.dK [])
    have n1 : upd H2 nd (.dK []) nd = some (.dK []) := upd_same
    generalize upd H2 nd (.dK []) = A1 at t1 n1
    refine ⟨_, rfl, _, rfl, r, _, rfl, .inr (SqT.of (t1 _ _ k2')), fun l1 hl1 => ?_⟩
    have t2 := same_new hl1 (.lst (e.2.1.map V.str))
    have g2 : upd A1 l1 (.lst (e.2.1.map V.str)) l1 = some (.lst (e.2.1.map V.str)) := upd_same
    generalize upd A1 l1 (.lst (e.2.1.map V.str)) = A2 at t2 g2
    refine ⟨sz (by show 0 ≤ 100000; decide), fun l2 hl2 => ?_⟩
    have t3 := same_new hl2 (.lst [])
    have g3 : upd A2 l2 (.lst []) l2 = some (.lst ([] : List V)) := upd_same
    have g23 := t3 _ _ g2
    have n3 := t3 _ _ (t2 _ _ n1)
    have t13 := t1.trans (t2.trans t3)
    have nl1 : nd ≠ l1 := fun z => by rw [← z, n1] at hl1; cases hl1
    have nl2 : nd ≠ l2 := fun z => by rw [← z, t2 _ _ n1] at hl2; cases hl2
    have l12 : l1 ≠ l2 := fun z => by rw [← z, g2] at hl2; cases hl2
    generalize upd A2 l2 (.lst []) = A3 at t3 g3 g23 n3 t13
    refine ⟨n3, nowK hd l1 l2, rfl, (by show 3 ≤ 15; decide), ?_⟩
    rw [show mergeK [] (nowK hd l1 l2) = nowK hd l1 l2 from rfl]
    have t4 : Same H2 (upd A3 nd (.dK (nowK hd l1 l2))) := same_mut t13 hnd
    have n4 : upd A3 nd (.dK (nowK hd l1 l2)) nd = some (.dK (nowK hd l1 l2)) := upd_same
    have g41 : upd A3 nd (.dK (nowK hd l1 l2)) l1 = some (.lst (e.2.1.map V.str)) := by rw [upd_ne (Ne.symm nl1)]; exact g23
    have g42 : upd A3 nd (.dK (nowK hd l1 l2)) l2 = some (.lst ([] : List V)) := by rw [upd_ne (Ne.symm nl2)]; exact g3
    generalize upd A3 nd (.dK (nowK hd l1 l2)) = H3 at t4 n4 g41 g42
    have f1 : H2 l1 = none := t1.free hl1
    have f2 : H2 l2 = none := (t1.trans t2).free hl2
    clear t1 t2 t3 g2 g3 g23 n1 n3 t13 hl1 hl2
    -- the part
    refine ⟨_, rfl, _, rfl, r, _, rfl, .inr (SqT.of (t4 _ _ k2')), fun l3 hl3 => ?_⟩
    have t5 := same_new hl3 (.lst (e.2.1.map V.str))
    have g5 : upd H3 l3 (.lst (e.2.1.map V.str)) l3 = some (.lst (e.2.1.map V.str)) := upd_same
    generalize upd H3 l3 (.lst (e.2.1.map V.str)) = H5 at t5 g5
    refine ⟨sz (by show 1 ≤ 100000; decide), fun l4 hl4 => ?_⟩
    have t6 := same_new hl4 (.lst [.str "home"])
    have g6 : upd H5 l4 (.lst [.str "home"]) l4 = some (.lst ((["home"] : List Str).map V.str)) := upd_same
    generalize upd H5 l4 (.lst [.str "home"]) = H6 at t6 g6
    have t36 := t5.trans t6
    have t26 := t4.trans t36
    have hcn := gE.cn
    have hn4 := gE.n4
    have GP : GpH H6 l3 l4 nd l1 l2 hd e.2.1 ["home"] e.2.1 [] hF (hdsK es) := {
      fnl := t6 _ _ g5
      fhl := g6
      fnow := t36 _ _ n4
      fhd := t26 _ _ (s2 _ _ g1)
      fhe := fun f m hm => by
        obtain ⟨e', he', rfl⟩ := List.mem_map.mp (hFn f m hm)
        have z := (hE e' he').hf
        rw [hm] at z
        have z2 := Option.some.inj z
        rw [hds_get hG.nd he', z2]
      fwl := t36 _ _ g41
      fpl := t36 _ _ g42
      n1 := l12
      n2 := fun z => by rw [z, g41] at hl3; cases hl3
      n3 := fun z => by rw [z, g42] at hl3; cases hl3
      n4 := fun z => by rw [z, t5 _ _ g41] at hl4; cases hl4
      n5 := fun z => by rw [z, t5 _ _ g42] at hl4; cases hl4 }
    refine ⟨_, rfl, b, l3, l4, nd, l1, l2, hd, e.2.2, e.2.1, ["home"], e.2.1, [], hF, hdsK es, rfl, PAt.tk (tk_same t26) k3', gE.ok, GP, hcn, by omega, by show 0 + _ ≤ 1000; omega, by omega, by show 1 + _ ≤ 1000; omega, fun H7 b7 w7 p7 => ⟨_, rfl, iteF ?_⟩⟩
    have G7 := GP.but b7 w7 p7
    have t27 : Same H2 H7 := fun a o h => b7 a o (fun z => by rw [z, f1] at h; cases h) (fun z => by rw [z, f2] at h; cases h) (t26 a o h)
    -- words and posts
    refine ⟨_, rfl, nd, _, rfl, (now_get G7.fnow).2.1, _, rfl, nd, _, rfl, (now_get G7.fnow).2.2, sz (by show 2 ≤ 100000; decide), fun sl hsl => ?_⟩
    have t8 := same_new hsl (.lst [.ref l1, .ref l2])
    have g8 : upd H7 sl (.lst [.ref l1, .ref l2]) sl = some (.lst [.ref l1, .ref l2]) := upd_same
    generalize upd H7 sl (.lst [.ref l1, .ref l2]) = H8 at t8 g8
    have hw := okP_words gE.ok
    have hwl := wP_le e.2.2
    have hjl := jP_le e.2.2
    have both : ∀ v ∈ [V.ref l1, .ref l2], ∃ (l : Addr) (zs : List Str), v = .ref l ∧ H8 l = some (.lst (zs.map V.str)) ∧ zs.Nodup ∧ zs.length ≤ 20 ∧ ∀ z ∈ zs, isW z = true := by
      intro v hv
      rcases List.mem_cons.mp hv with z | z
      · refine ⟨l1, _, z, t8 _ _ w7, gE.un, by rw [List.length_append]; omega, fun y hy => ?_⟩
        rcases List.mem_append.mp hy with z | z
        · exact gE.ws y z
        · exact hw.1 y z
      · exact ⟨l2, _, List.mem_singleton.mp z, t8 _ _ p7, gE.uj, by show (jP e.2.2).length ≤ 20; omega, fun y hy => hw.2 y hy⟩
    refine ⟨sl, rfl, ⟨_, SqL.of g8⟩, for_list (K := K) (a := sl) (xs := [.ref l1, .ref l2]) (fun m σ H' => ∃ o7, σ = [some (.ref p), some (.ref hd), o2, some (.str e.1), some (.ref r), some (.ref b), some (.ref nd), o7, none] ∧ Same H8 H') ⟨_, rfl, Same.refl _⟩ ?_ ?_ ?_⟩
    · rintro m σ H' _ ⟨o7, rfl, s9⟩
      exact SqL.of (s9 _ _ g8)
    · rintro m x σ H9 hx ⟨o7, rfl, s9⟩
      obtain ⟨l, zs, rfl, hl, hnd, hzl, hzw⟩ := both x (List.mem_of_getElem? hx)
      have hl9 := s9 _ _ hl
      refine ⟨_, rfl, l, rfl, ⟨_, SqL.of hl9⟩, fun D hD => lc_list (K := K) (a := l) (xs := zs.map V.str) (fun i H' => Same H9 H' ∧ H' D = some (.lst ((List.replicate i true).map V.bl))) ⟨same_new hD _, upd_same⟩ ?_ ?_ ?_⟩
      · rintro i H' _ ⟨s10, _⟩
        exact SqL.of (s10 _ _ hl9)
      · rintro i x H10 hx2 ⟨s10, g10⟩
        rw [List.getElem?_map] at hx2
        obtain ⟨y, hy, rfl⟩ : ∃ y, zs[i]? = some y ∧ V.str y = x := by
          cases e0 : zs[i]? with
          | none => rw [e0] at hx2; cases hx2
          | some y => rw [e0] at hx2; exact ⟨y, rfl, Option.some.inj hx2⟩
        have hi := (List.getElem?_eq_some_iff.mp hy).1
        refine ⟨rfl, ?_⟩
        dsimp only [tYes]
        refine iteT ⟨_, rfl, y, rfl, hzw y (mem_of_get hy), fun H11 s11 => ?_⟩
        refine ⟨_, s11 _ _ g10, Nat.lt_of_le_of_lt (m := 20) (by rw [List.length_map, List.length_replicate]; omega) (by decide), same_mut (s10.trans s11) hD, ?_⟩
        rw [upd_same, List.replicate_succ', List.map_append]
        rfl
      rintro H10 ⟨s10, g10⟩
      refine ⟨D, _, rfl, SqL.of g10, ?_⟩
      have e1 : (List.replicate (zs.map V.str).length true).all id = true := by simp
      rw [e1]
      have hl10 := s10 _ _ hl9
      refine ⟨_, rfl, iteF ?_⟩
      refine ⟨_, rfl, l, zs, rfl, SqL.of hl10, hnd, by omega, _, rfl, l, _, rfl, .inl (SqL.of hl10), _, _, rfl, rfl, _, rfl, itF (decide_eq_false (by rw [List.length_map]; omega)) ?_⟩
      exact ⟨_, rfl, s9.trans s10⟩
    · rintro σ H9 ⟨o7, rfl, s9⟩
      exact ⟨_, _, _, _, _, rfl, s2.trans (t27.trans (t8.trans s9))⟩
  · rintro σ H2 ⟨o3, o4, o5, o6, o7, rfl, s2⟩
    have s02 := s1.trans s2
    refine ⟨_, rfl, hd, _, rfl, s2 _ _ g1, _, rfl, p, _, rfl, .inr (SqT.of (s02 _ _ hB.1)), rfl, ?_⟩
    have e : (hdsK es).length = us.length := by
      unfold hdsK
      rw [List.length_map, hus]
    show Q (.bl (decide (V.int ((hdsK es).length : Int) = V.int (us.length : Int)))) H2
    rw [e, decide_eq_true rfl]
    exact q H2 s02
end
end KB

namespace KB
open PySem L2 HT LamX NdefX

/-! ### who is handed to -/
theorem handed_give {j i : Str} {t : Tm} : handed j (.give i t) = decide (i = j) := by
  unfold handed
  rw [TrP.pre_mk]
  show (decide (V.str i = V.str j) || false) = _
  rw [Bool.or_false]
  exact decide_eq_decide.mpr ⟨V.str.inj, congrArg _⟩
theorem handed_ask {j i f : Str} {ts : List Tm} : handed j (.ask f ts i) = decide (i = j) := by
  unfold handed
  rw [TrP.pre_mk]
  show (decide (V.str i = V.str j) || false) = _
  rw [Bool.or_false]
  exact decide_eq_decide.mpr ⟨V.str.inj, congrArg _⟩
theorem handed_one {j : Str} {q p : Pt} (hv : handV q = .non) (hk : restP q = [p]) : handed j q = handed j p := by
  unfold handed
  rw [TrP.pre_mk, show TrP.kids q = [p] from hk, List.any_cons, hv, Tre.pres_cons]
  show (decide (V.non = V.str j) || List.any (TrP.pre p ++ []) _) = _
  rw [List.append_nil, decide_eq_false (by simp), Bool.false_or]
theorem handed_two {j : Str} {q p p2 : Pt} (hv : handV q = .non) (hk : restP q = [p, p2]) : handed j q = (handed j p || handed j p2) := by
  unfold handed
  rw [TrP.pre_mk, show TrP.kids q = [p, p2] from hk, List.any_cons, hv, Tre.pres_cons, Tre.pres_cons]
  show (decide (V.non = V.str j) || List.any (TrP.pre p ++ (TrP.pre p2 ++ [])) _) = _
  rw [List.append_nil, decide_eq_false (by simp), Bool.false_or, List.any_append]
theorem handed_ends (j : Str) : ∀ p : Pt, handed j p = decide (j ∈ endsP p)
  | .give i t => by
    rw [handed_give]
    exact decide_eq_decide.mpr ⟨fun z => List.mem_singleton.mpr z.symm, fun z => (List.mem_singleton.mp z).symm⟩
  | .ask f ts i => by
    rw [handed_ask]
    exact decide_eq_decide.mpr ⟨fun z => List.mem_singleton.mpr z.symm, fun z => (List.mem_singleton.mp z).symm⟩
  | .tell x t p => by
    rw [handed_one (p := p) rfl rfl, handed_ends j p]
    refine decide_eq_decide.mpr ⟨fun z => List.mem_append_left _ z, fun z => ?_⟩
    rcases List.mem_append.mp z with z | z
    · exact z
    · cases z
  | .lett x t p => by
    rw [handed_one (p := p) rfl rfl, handed_ends j p]
    refine decide_eq_decide.mpr ⟨fun z => List.mem_append_left _ z, fun z => ?_⟩
    rcases List.mem_append.mp z with z | z
    · exact z
    · cases z
  | .iff t p q => by
    rw [handed_two (p := p) (p2 := q) rfl rfl, handed_ends j p, handed_ends j q]
    rw [← Bool.decide_or]
    refine decide_eq_decide.mpr ⟨fun z => ?_, fun z => ?_⟩
    · rcases z with z | z
      · exact List.mem_append_left _ z
      · exact List.mem_append_right _ (List.mem_append_left _ z)
    · rcases List.mem_append.mp z with z | z
      · exact .inl z
      · rcases List.mem_append.mp z with z | z
        · exact .inr z
        · cases z
  | .post i x p q => by
    rw [handed_two (p := p) (p2 := q) rfl rfl, handed_ends j p, handed_ends j q]
    rw [← Bool.decide_or]
    refine decide_eq_decide.mpr ⟨fun z => ?_, fun z => ?_⟩
    · rcases z with z | z
      · exact List.mem_append_left _ z
      · exact List.mem_append_right _ (List.mem_append_left _ z)
    · rcases List.mem_append.mp z with z | z
      · exact .inl z
      · rcases List.mem_append.mp z with z | z
        · exact .inr z
        · cases z
theorem ends_ren (j k : Str) : ∀ p : Pt, endsP (renP j k p) = (endsP p).map (hnW j k)
  | .give _ _ => rfl
  | .ask _ _ _ => rfl
  | .tell x t p => by show endsP (renP j k p) ++ [] = (endsP p ++ []).map _; rw [ends_ren j k p, List.map_append]; rfl
  | .lett x t p => by show endsP (renP j k p) ++ [] = (endsP p ++ []).map _; rw [ends_ren j k p, List.map_append]; rfl
  | .iff t p q => by show endsP (renP j k p) ++ (endsP (renP j k q) ++ []) = (endsP p ++ (endsP q ++ [])).map _; rw [ends_ren j k p, ends_ren j k q, List.map_append, List.map_append]; rfl
  | .post i x p q => by show endsP (renP j k p) ++ (endsP (renP j k q) ++ []) = (endsP p ++ (endsP q ++ [])).map _; rw [ends_ren j k p, ends_ren j k q, List.map_append, List.map_append]; rfl
theorem jP_ren (j k : Str) : ∀ p : Pt, jP (renP j k p) = jP p
  | .give _ _ => rfl
  | .ask _ _ _ => rfl
  | .tell x t p => jP_ren j k p
  | .lett x t p => jP_ren j k p
  | .iff t p q => by show jP (renP j k p) ++ jP (renP j k q) = jP p ++ jP q; rw [jP_ren j k p, jP_ren j k q]
  | .post i x p q => by show i :: (jP (renP j k p) ++ jP (renP j k q)) = i :: (jP p ++ jP q); rw [jP_ren j k p, jP_ren j k q]
theorem wP_ren (j k : Str) : ∀ p : Pt, wP (renP j k p) = wP p
  | .give _ _ => rfl
  | .ask _ _ _ => rfl
  | .tell x t p => congrArg (x :: ·) (wP_ren j k p)
  | .lett x t p => congrArg (x :: ·) (wP_ren j k p)
  | .iff t p q => by show wP (renP j k p) ++ wP (renP j k q) = wP p ++ wP q; rw [wP_ren j k p, wP_ren j k q]
  | .post i x p q => by show x :: (wP (renP j k p) ++ wP (renP j k q)) = x :: (wP p ++ wP q); rw [wP_ren j k p, wP_ren j k q]
theorem pcnt_ren (j k : Str) : ∀ p : Pt, pcnt (renP j k p) = pcnt p
  | .give _ _ => rfl
  | .ask _ _ _ => rfl
  | .tell x t p => congrArg (1 + ·) (pcnt_ren j k p)
  | .lett x t p => congrArg (1 + ·) (pcnt_ren j k p)
  | .iff t p q => by show 1 + pcnt (renP j k p) + pcnt (renP j k q) = 1 + pcnt p + pcnt q; rw [pcnt_ren j k p, pcnt_ren j k q]
  | .post i x p q => by show 1 + pcnt (renP j k p) + pcnt (renP j k q) = 1 + pcnt p + pcnt q; rw [pcnt_ren j k p, pcnt_ren j k q]
/-- a hand-on that nobody hands to is not said anew -/
theorem ren_none {j k : Str} : ∀ {p : Pt}, j ∉ endsP p → renP j k p = p
  | .give i t, h => by
    show Pt.give (hnW j k i) t = _
    unfold hnW
    rw [if_neg (fun z => h (List.mem_singleton.mpr z.symm))]
  | .ask f ts i, h => by
    show Pt.ask f ts (hnW j k i) = _
    unfold hnW
    rw [if_neg (fun z => h (List.mem_singleton.mpr z.symm))]
  | .tell x t p, h => congrArg (Pt.tell x t) (ren_none fun z => h (List.mem_append_left _ z))
  | .lett x t p, h => congrArg (Pt.lett x t) (ren_none fun z => h (List.mem_append_left _ z))
  | .iff t p q, h => by
    show Pt.iff t (renP j k p) (renP j k q) = _
    rw [ren_none fun z => h (List.mem_append_left _ z), ren_none fun z => h (List.mem_append_right _ (List.mem_append_left _ z))]
  | .post i x p q, h => by
    show Pt.post i x (renP j k p) (renP j k q) = _
    rw [ren_none fun z => h (List.mem_append_left _ z), ren_none fun z => h (List.mem_append_right _ (List.mem_append_left _ z))]
theorem ren_ren {i k j h : Str} (hij : i ≠ j) (hih : i ≠ h) : ∀ p : Pt, renP i (hnW j h k) (renP j h p) = renP j h (renP i k p) := by
  have e : ∀ y : Str, hnW i (hnW j h k) (hnW j h y) = hnW j h (hnW i k y) := fun y => by
    by_cases c : y = i
    · subst c
      rw [show hnW j h y = y from if_neg hij, show hnW y (hnW j h k) y = hnW j h k from if_pos rfl, show hnW y k y = k from if_pos rfl]
    · rw [show hnW i k y = y from if_neg c]
      refine if_neg ?_
      unfold hnW
      split
      · exact fun z => hih z.symm
      · exact c
  intro p
  induction p with
  | give y t => exact congrArg (Pt.give · t) (e y)
  | ask f ts y => exact congrArg (Pt.ask f ts ·) (e y)
  | tell x t p ih => exact congrArg (Pt.tell x t) ih
  | lett x t p ih => exact congrArg (Pt.lett x t) ih
  | iff t p q ih1 ih2 =>
    show Pt.iff t _ _ = Pt.iff t _ _
    rw [ih1, ih2]
  | post y x p q ih1 ih2 =>
    show Pt.post y x _ _ = Pt.post y x _ _
    rw [ih1, ih2]
theorem handed_ren {i j h : Str} (hij : i ≠ j) (hih : i ≠ h) (p : Pt) : handed i (renP j h p) = handed i p := by
  rw [handed_ends, handed_ends, ends_ren]
  refine decide_eq_decide.mpr ⟨fun z => ?_, fun z => List.mem_map.mpr ⟨i, z, if_neg hij⟩⟩
  obtain ⟨y, hy, e⟩ := List.mem_map.mp z
  unfold hnW at e
  split at e
  · exact absurd e.symm hih
  · rwa [← e]
/-- one post made slim, its hand-ons said anew -/
theorem slim1_ren {i j h x : Str} (hij : i ≠ j) (hih : i ≠ h) (p q : Pt) : slim1 (.post i x (renP j h p) (renP j h q)) = renP j h (slim1 (.post i x p q)) := by
  cases p with
  | give k t =>
    show (if passed (.give (hnW j h k) t) x = true then renP i (hnW j h k) (renP j h q) else if handed i (renP j h q) = true then .post i x (.give (hnW j h k) t) (renP j h q) else renP j h q) = renP j h (if passed (.give k t) x = true then renP i k q else if handed i q = true then .post i x (.give k t) q else q)
    rw [handed_ren hij hih, ren_ren hij hih]
    by_cases c : passed (.give k t) x = true
    · rw [if_pos c, if_pos (show passed (.give (hnW j h k) t) x = true from c)]
    · rw [if_neg c, if_neg (show ¬ passed (.give (hnW j h k) t) x = true from c)]
      split <;> rfl
  | _ =>
    show (if handed i (renP j h q) = true then _ else renP j h q) = renP j h (if handed i q = true then _ else q)
    rw [handed_ren hij hih]
    split <;> rfl
theorem slim_ren {j h : Str} : ∀ {p : Pt}, j ∉ jP p → h ∉ jP p → slimP (renP j h p) = renP j h (slimP p)
  | .give _ _, _, _ => rfl
  | .ask _ _ _, _, _ => rfl
  | .tell x t p, a, b => congrArg (Pt.tell x t) (slim_ren (p := p) a b)
  | .lett x t p, a, b => congrArg (Pt.lett x t) (slim_ren (p := p) a b)
  | .iff t p q, a, b => by
    show Pt.iff t (slimP (renP j h p)) (slimP (renP j h q)) = Pt.iff t _ _
    rw [slim_ren (p := p) (fun z => a (List.mem_append_left _ z)) (fun z => b (List.mem_append_left _ z)), slim_ren (p := q) (fun z => a (List.mem_append_right _ z)) (fun z => b (List.mem_append_right _ z))]
  | .post i x p q, a, b => by
    have a' := fun z => a (List.mem_cons_of_mem _ z)
    have b' := fun z => b (List.mem_cons_of_mem _ z)
    show slim1 (.post i x (slimP (renP j h p)) (slimP (renP j h q))) = renP j h (slim1 (.post i x (slimP p) (slimP q)))
    rw [slim_ren (p := p) (fun z => a' (List.mem_append_left _ z)) (fun z => b' (List.mem_append_left _ z)), slim_ren (p := q) (fun z => a' (List.mem_append_right _ z)) (fun z => b' (List.mem_append_right _ z))]
    exact slim1_ren (fun z => a (List.mem_cons.mpr (.inl z.symm))) (fun z => b (List.mem_cons.mpr (.inl z.symm))) _ _
/-! ### a slim book is good -/
theorem okP_ren {hd : Str → Option Nat} {j k : Str} : ∀ {q : Pt} {xs h1 h2 : List Str}, (∀ i ∈ h1, i ≠ j → i ∈ h2) → k ∈ h2 → okP hd q xs h1 → okP hd (renP j k q) xs h2
  | .give i t, xs, h1, h2, m, hk, h => ⟨by
      show hnW j k i ∈ h2
      unfold hnW
      split
      · exact hk
      · exact m i h.1 (by assumption), h.2⟩
  | .ask f ts i, xs, h1, h2, m, hk, h => ⟨by
      show hnW j k i ∈ h2
      unfold hnW
      split
      · exact hk
      · exact m i h.1 (by assumption), h.2⟩
  | .tell x t p, xs, h1, h2, m, hk, h => ⟨h.1, h.2.1, okP_ren m hk h.2.2⟩
  | .lett x t p, xs, h1, h2, m, hk, h => ⟨h.1, h.2.1, okP_ren m hk h.2.2⟩
  | .iff t p q, xs, h1, h2, m, hk, h => ⟨h.1, okP_ren m hk h.2.1, okP_ren m hk h.2.2⟩
  | .post i x p q, xs, h1, h2, m, hk, h => ⟨h.1, h.2.1, okP_ren m hk h.2.2.1, okP_ren (fun y hy c => by
      rcases List.mem_append.mp hy with z | z
      · exact List.mem_append_left _ (m y z c)
      · exact List.mem_append_right _ z) (List.mem_append_left _ hk) h.2.2.2⟩
theorem okP_drop {hd : Str → Option Nat} {j : Str} : ∀ {q : Pt} {xs h1 h2 : List Str}, (∀ i ∈ h1, i ≠ j → i ∈ h2) → j ∉ endsP q → okP hd q xs h1 → okP hd q xs h2
  | .give i t, xs, h1, h2, m, hj, h => ⟨m i h.1 fun z => hj (List.mem_singleton.mpr z.symm), h.2⟩
  | .ask f ts i, xs, h1, h2, m, hj, h => ⟨m i h.1 fun z => hj (List.mem_singleton.mpr z.symm), h.2⟩
  | .tell x t p, xs, h1, h2, m, hj, h => ⟨h.1, h.2.1, okP_drop m (fun z => hj (List.mem_append_left _ z)) h.2.2⟩
  | .lett x t p, xs, h1, h2, m, hj, h => ⟨h.1, h.2.1, okP_drop m (fun z => hj (List.mem_append_left _ z)) h.2.2⟩
  | .iff t p q, xs, h1, h2, m, hj, h => ⟨h.1, okP_drop m (fun z => hj (List.mem_append_left _ z)) h.2.1, okP_drop m (fun z => hj (List.mem_append_right _ (List.mem_append_left _ z))) h.2.2⟩
  | .post i x p q, xs, h1, h2, m, hj, h => ⟨h.1, h.2.1, okP_drop m (fun z => hj (List.mem_append_left _ z)) h.2.2.1, okP_drop (fun y hy c => by
      rcases List.mem_append.mp hy with z | z
      · exact List.mem_append_left _ (m y z c)
      · exact List.mem_append_right _ z) (fun z => hj (List.mem_append_right _ (List.mem_append_left _ z))) h.2.2.2⟩
/-- what a post made slim is -/
theorem slim1_is (j x : Str) (p q : Pt) : (slim1 (.post j x p q) = q ∧ j ∉ endsP q) ∨ (∃ k t, slim1 (.post j x p q) = renP j k q ∧ p = .give k t) ∨ slim1 (.post j x p q) = .post j x p q := by
  have hd : ¬ handed j q = true → j ∉ endsP q := fun h z => h (by rw [handed_ends]; exact decide_eq_true z)
  cases p with
  | give k t =>
    by_cases c : passed (.give k t) x = true
    · exact .inr (.inl ⟨k, t, if_pos c, rfl⟩)
    · have e : slim1 (.post j x (.give k t) q) = if handed j q = true then .post j x (.give k t) q else q := if_neg c
      by_cases c2 : handed j q = true
      · exact .inr (.inr (e.trans (if_pos c2)))
      · exact .inl ⟨e.trans (if_neg c2), hd c2⟩
  | _ =>
    by_cases c2 : handed j q = true
    · exact .inr (.inr (if_pos c2))
    · exact .inl ⟨if_neg c2, hd c2⟩
theorem okP_slim {hd : Str → Option Nat} : ∀ {p : Pt} {xs hs : List Str}, okP hd p xs hs → okP hd (slimP p) xs hs
  | .give _ _, _, _, h => h
  | .ask _ _ _, _, _, h => h
  | .tell x t p, _, _, h => ⟨h.1, h.2.1, okP_slim h.2.2⟩
  | .lett x t p, _, _, h => ⟨h.1, h.2.1, okP_slim h.2.2⟩
  | .iff t p q, _, _, h => ⟨h.1, okP_slim h.2.1, okP_slim h.2.2⟩
  | .post j x p q, xs, hs, h => by
    have i1 := okP_slim h.2.2.1
    have i2 := okP_slim h.2.2.2
    have m : ∀ i ∈ hs ++ [j], i ≠ j → i ∈ hs := fun i hi c => by
      rcases List.mem_append.mp hi with z | z
      · exact z
      · exact absurd (List.mem_singleton.mp z) c
    show okP hd (slim1 (.post j x (slimP p) (slimP q))) xs hs
    rcases slim1_is j x (slimP p) (slimP q) with ⟨e, n⟩ | ⟨k, t, e, e2⟩ | e
    · rw [e]
      exact okP_drop m n i2
    · rw [e]
      rw [e2] at i1
      exact okP_ren m i1.1 i2
    · rw [e]
      exact ⟨h.1, h.2.1, i1, i2⟩
theorem pcnt_slim : ∀ p : Pt, pcnt (slimP p) ≤ pcnt p
  | .give _ _ => Nat.le_refl _
  | .ask _ _ _ => Nat.le_refl _
  | .tell x t p => Nat.add_le_add_left (pcnt_slim p) 1
  | .lett x t p => Nat.add_le_add_left (pcnt_slim p) 1
  | .iff t p q => by
    have h1 := pcnt_slim p
    have h2 := pcnt_slim q
    show 1 + pcnt (slimP p) + pcnt (slimP q) ≤ 1 + pcnt p + pcnt q
    omega
  | .post j x p q => by
    have h1 := pcnt_slim p
    have h2 := pcnt_slim q
    show pcnt (slim1 (.post j x (slimP p) (slimP q))) ≤ 1 + pcnt p + pcnt q
    rcases slim1_is j x (slimP p) (slimP q) with ⟨e, n⟩ | ⟨k, t, e, e2⟩ | e
    · rw [e]; omega
    · rw [e, pcnt_ren]; omega
    · rw [e]
      show 1 + pcnt (slimP p) + pcnt (slimP q) ≤ _
      omega
theorem sub_slim : ∀ p : Pt, (wP (slimP p)).Sublist (wP p) ∧ (jP (slimP p)).Sublist (jP p)
  | .give _ _ => ⟨List.Sublist.refl _, List.Sublist.refl _⟩
  | .ask _ _ _ => ⟨List.Sublist.refl _, List.Sublist.refl _⟩
  | .tell x t p => ⟨(sub_slim p).1.cons_cons x, (sub_slim p).2⟩
  | .lett x t p => ⟨(sub_slim p).1.cons_cons x, (sub_slim p).2⟩
  | .iff t p q => ⟨(sub_slim p).1.append (sub_slim q).1, (sub_slim p).2.append (sub_slim q).2⟩
  | .post j x p q => by
    have h1 := sub_slim p
    have h2 := sub_slim q
    have w := (List.sublist_append_right (wP p) (wP q)).cons x
    have k := (List.sublist_append_right (jP p) (jP q)).cons j
    show (wP (slim1 (.post j x (slimP p) (slimP q)))).Sublist (x :: (wP p ++ wP q)) ∧ (jP (slim1 (.post j x (slimP p) (slimP q)))).Sublist (j :: (jP p ++ jP q))
    rcases slim1_is j x (slimP p) (slimP q) with ⟨e, n⟩ | ⟨k', t, e, e2⟩ | e
    · rw [e]
      exact ⟨h2.1.trans w, h2.2.trans k⟩
    · rw [e, wP_ren, jP_ren]
      exact ⟨h2.1.trans w, h2.2.trans k⟩
    · rw [e]
      exact ⟨(h1.1.append h2.1).cons_cons x, (h1.2.append h2.2).cons_cons j⟩
theorem GdTE.slim {hF : Str → Option Nat} {e : TEr} (h : GdTE hF e) : GdTE hF (slimE e) where
  w := h.w
  ws := h.ws
  n4 := h.n4
  ok := okP_slim h.ok
  cn := Nat.le_trans (pcnt_slim _) h.cn
  hf := h.hf
  un := h.un.sublist ((List.Sublist.refl _).append (sub_slim e.2.2).1)
  uj := h.uj.sublist (sub_slim e.2.2).2
theorem GdTB.slim {es : List TEr} (h : GdTB es) : GdTB (es.map slimE) where
  len := by rw [List.length_map]; exact h.len
  nd := by
    rw [List.map_map]
    exact h.nd
  er := by
    obtain ⟨hF, h1, h2⟩ := h.er
    refine ⟨hF, fun e he => ?_, fun f n e => ?_⟩
    · obtain ⟨d, hd, rfl⟩ := List.mem_map.mp he
      exact (h1 d hd).slim
    · rw [List.map_map]
      exact h2 f n e
end KB

namespace KB
open PySem L2

/-! ### the number of a simple term -/
abbrev Env := Str → Option Int
def evH (env : Env) : Hd → List Int → Int
  | .num z, _ => z
  | .nam x, _ => (env x).getD 0
  | .plus, l => Int.fmod (l.getD 0 0 + l.getD 1 0) 1000
  | .less, l => Int.fmod (l.getD 0 0 - l.getD 1 0) 1000
  | _, _ => 0
def evS (env : Env) : Tm → Int
  | .mk h _ k => evH env h (List.ofFn fun i => evS env (k i))
/-- each name of a simple term has its number -/
def hasN (env : Env) : Tm → Prop
  | .mk h _ k => (match h with | .nam x => ∃ z, env x = some z | _ => True) ∧ ∀ i, hasN env (k i)
section
variable {P : Program} {w : World} {K : PySem.W.Frag} {mg : Str → Option Value} {base : Heap}
def spValue (n : Nat) : Sp := fun vs H Q _ => ∃ (tb nb : Addr) (t : Tm) (env : Env) (kvs : List (Key × V)), vs = [.ref tb, .ref nb] ∧ At H t tb ∧ simple t = true ∧ HtLe n t ∧ hasN env t ∧ H nb = some (.dK kvs) ∧ (∀ x : Str, valV kvs (Sum.inr x) = (env x).map V.int) ∧ ∀ H', Same H H' → Q (.int (evS env t)) H'
abbrev s_law_value : Stmt := top 30
theorem scLvalue : FnScope ["term", "names", "one", "other"] ["term", "names"] (defScope s_law_value) := ⟨rfl, rfl, rfl, by decide +kernel, rfl, by decide +kernel, by decide +kernel⟩
theorem ok_value (T : Txt K mg) (n : Nat) {f : Addr} {fd : FuncData} (F : Fun K "_law_value" "_law_value" s_law_value f fd) (G_law_value : FnOk P w K mg base CX0 n f fd ["term", "names"] (spValue n)) (R_law_value : Ref K mg "_law_value" f fd ["term", "names"]) : FnOk P w K mg base CX0 (n + 1) f fd ["term", "names"] (spValue (n + 1)) := by
  refine F.ok scLvalue (fun vs H Q E h => ?_) (fun cdv A outer s H vs Q E hr h => ?_)
  · obtain ⟨tb, nb, t, env, kvs, rfl, _⟩ := h
    rfl
  obtain ⟨tb, nb, t, env, kvs, rfl, hA, hs, hh, hN, hn, hv, q⟩ := h
  refine ⟨_, (pss_cons (ps_if (pt_cmpR op_eq (pe_ix ix_tup (pv 0) pe_int (fun _ _ => rfl)) pe_str (nomark _)) (pss_one (ps_ret (pe_ix ix_tup (pv 0) pe_int (fun _ _ => rfl)))) pss_nil)
    (pss_cons (ps_if (pt_cmpR op_eq (pe_ix ix_tup (pv 0) pe_int (fun _ _ => rfl)) pe_str (nomark _)) (pss_one (ps_ret (pe_dget (hu_of hr) (pv 1) (pe_ix ix_tup (pv 0) pe_int (fun _ _ => rfl)) (fun _ _ => rfl)))) pss_nil)
    (pss_cons (ps_set (i := 2) scLvalue.nd rfl (Or.inl rfl) (pe_call G_law_value (hr.mono (by omega)) rfl R_law_value.m R_law_value.k R_law_value.b .nil pass0 (pa_cons (pe_ix ix_tup (pv 0) pe_int (fun _ _ => rfl)) (pa_cons (pv 1) pa_nil))))
    (pss_cons (ps_set (i := 3) scLvalue.nd rfl (Or.inl rfl) (pe_call G_law_value (hr.mono (by omega)) rfl R_law_value.m R_law_value.k R_law_value.b .nil pass0 (pa_cons (pe_ix ix_tup (pv 0) pe_int (fun _ _ => rfl)) (pa_cons (pv 1) pa_nil))))
    (pss_one (ps_ret (pe_op op_modN (pe_ix ix_list (pe_lst (pa_cons (pe_op op_add (pv 2) (pv 3)) (pa_cons (pe_op op_sub (pv 2) (pv 3)) pa_nil))) (pe_callTy call_int1 (by rfl) T.m_int (by decide +kernel) (pa_cons (pe_cmpR op_eq (pe_ix ix_tup (pv 0) pe_int (fun _ _ => rfl)) pe_str (nomark _)) pa_nil)) (fun _ _ => rfl)) pe_int))))))), ?_⟩
  cases t with
  | mk h m k =>
    obtain ⟨ys, l, r⟩ := hA
    obtain ⟨r0, hhd⟩ := l.head
    have hsm : flatHd h = true ∧ ∀ i, simple (k i) = true := by
      have hs' : (flatHd h && (List.ofFn fun i => simple (k i)).all id) = true := hs
      rw [Bool.and_eq_true, List.all_eq_true] at hs'
      exact ⟨hs'.1, fun i => hs'.2 _ (List.mem_ofFn.mpr ⟨i, rfl⟩)⟩
    have e0 : (Rfs ys).length = m := by
      unfold Rfs
      rw [List.length_ofFn]
    refine ⟨_, rfl, tb, _, _, _, rfl, rfl, SqT.of hhd, at0, rfl, _, rfl, ?_⟩
    cases h with
    | num z =>
      refine itT rfl ⟨_, rfl, tb, _, _, _, rfl, rfl, SqT.of l.2, at1, ?_⟩
      exact q H (Same.refl H)
    | nam x =>
      refine itF rfl ⟨_, rfl, tb, _, _, _, rfl, rfl, SqT.of hhd, at0, rfl, _, rfl, ?_⟩
      obtain ⟨z, hz⟩ : ∃ z, env x = some z := hN.1
      refine itT rfl ⟨_, rfl, _, rfl, tb, _, _, _, rfl, rfl, SqT.of l.2, at1, nb, .int z, rfl, get_of hn (by rw [hv, hz]; rfl), ?_⟩
      have := q H (Same.refl H)
      have e : evS env (.mk (.nam x) m k) = z := by
        show (env x).getD 0 = z
        rw [hz]
        rfl
      rw [e] at this
      exact this
    | tell => exact absurd hsm.1 (by decide)
    | lett x => exact absurd hsm.1 Bool.false_ne_true
    | iff => exact absurd hsm.1 (by decide)
    | ask g => exact absurd hsm.1 Bool.false_ne_true
    | plus =>
      have hm : m = 2 := by rw [← e0]; exact l.1
      subst hm
      have l2 := l.2
      rw [show Rfs ys = [V.ref (ys 0), .ref (ys 1)] from rfl] at l2
      refine itF rfl ⟨_, rfl, tb, _, _, _, rfl, rfl, SqT.of hhd, at0, rfl, _, rfl, ?_⟩
      refine itF rfl ⟨_, rfl, tb, _, _, _, rfl, rfl, SqT.of l2, at1, _, rfl, ys 0, nb, k 0, env, kvs, rfl, r 0, hsm.2 0, hh 0, hN.2 0, hn, hv, fun H1 s1 => ?_⟩
      refine ⟨_, rfl, tb, _, _, _, rfl, rfl, SqT.of (s1 _ _ l2), at2, _, rfl, ys 1, nb, k 1, env, kvs, rfl, (r 1).mono s1, hsm.2 1, hh 1, hN.2 1, s1 _ _ hn, hv, fun H2 s2 => ?_⟩
      have s12 := s1.trans s2
      refine ⟨_, rfl, _, rfl, _, _, rfl, rfl, _, rfl, _, rfl, _, _, rfl, rfl, sz (by show 2 ≤ 100000; decide), fun p hp => ?_⟩
      have s3 := same_new hp (.lst [V.int (evS env (k 0) + evS env (k 1)), .int (evS env (k 0) - evS env (k 1))])
      refine ⟨_, rfl, tb, _, _, _, rfl, rfl, SqT.of (s3 _ _ (s12 _ _ l2)), at0, rfl, .inr ⟨_, rfl, p, _, _, _, rfl, rfl, SqL.of upd_same, at0, _, _, rfl, rfl, (by show (1000 : Int) ≠ 0; decide), ?_⟩⟩
      exact q _ (s12.trans s3)
    | less =>
      have hm : m = 2 := by rw [← e0]; exact l.1
      subst hm
      have l2 := l.2
      rw [show Rfs ys = [V.ref (ys 0), .ref (ys 1)] from rfl] at l2
      refine itF rfl ⟨_, rfl, tb, _, _, _, rfl, rfl, SqT.of hhd, at0, rfl, _, rfl, ?_⟩
      refine itF rfl ⟨_, rfl, tb, _, _, _, rfl, rfl, SqT.of l2, at1, _, rfl, ys 0, nb, k 0, env, kvs, rfl, r 0, hsm.2 0, hh 0, hN.2 0, hn, hv, fun H1 s1 => ?_⟩
      refine ⟨_, rfl, tb, _, _, _, rfl, rfl, SqT.of (s1 _ _ l2), at2, _, rfl, ys 1, nb, k 1, env, kvs, rfl, (r 1).mono s1, hsm.2 1, hh 1, hN.2 1, s1 _ _ hn, hv, fun H2 s2 => ?_⟩
      have s12 := s1.trans s2
      refine ⟨_, rfl, _, rfl, _, _, rfl, rfl, _, rfl, _, rfl, _, _, rfl, rfl, sz (by show 2 ≤ 100000; decide), fun p hp => ?_⟩
      have s3 := same_new hp (.lst [V.int (evS env (k 0) + evS env (k 1)), .int (evS env (k 0) - evS env (k 1))])
      refine ⟨_, rfl, tb, _, _, _, rfl, rfl, SqT.of (s3 _ _ (s12 _ _ l2)), at0, rfl, .inr ⟨_, rfl, p, _, _, _, rfl, rfl, SqL.of upd_same, at1, _, _, rfl, rfl, (by show (1000 : Int) ≠ 0; decide), ?_⟩⟩
      exact q _ (s12.trans s3)
theorem all_value (T : Txt K mg) {f : Addr} {fd : FuncData} (F : Fun K "_law_value" "_law_value" s_law_value f fd) (R_law_value : Ref K mg "_law_value" f fd ["term", "names"]) : ∀ n : Nat, FnOk P w K mg base CX0 n f fd ["term", "names"] (spValue n)
  | 0 => ⟨fun vs H Q E h => (by obtain ⟨tb, nb, t, env, kvs, rfl, _⟩ := h; rfl), fun _ _ _ _ _ _ _ _ _ _ _ _ _ h => (by obtain ⟨_, _, t, _, _, _, _, _, hh, _⟩ := h; exact hh.elim)⟩
  | n + 1 => ok_value T n F (all_value T F R_law_value n) R_law_value
end
end KB

namespace KB
open PySem L2

/-! ### what a run wants of parts -/
/-- simple, its names within these -/
structure RTm (xs : List Str) (t : Tm) : Prop where
  ok : okT t
  si : simple t = true
  n : ∀ env : Env, (∀ x ∈ xs, ∃ z, env x = some z) → hasN env t
  cn : cnt t ≤ 200
  ht : HtLe 64 t
def rP (hd : Str → Option Nat) : Pt → List Str → List Str → Prop
  | .give j t, xs, hs => j ∈ hs ∧ RTm xs t
  | .ask f ts j, xs, hs => j ∈ hs ∧ isW f = true ∧ hd f = some ts.length ∧ ts.length ≤ 4 ∧ ∀ t ∈ ts, RTm xs t
  | .tell x t p, xs, hs => isW x = true ∧ RTm xs t ∧ rP hd p (xs ++ [x]) hs
  | .lett x t p, xs, hs => isW x = true ∧ RTm xs t ∧ rP hd p (xs ++ [x]) hs
  | .iff t p q, xs, hs => RTm xs t ∧ rP hd p xs hs ∧ rP hd q xs hs
  | .post j x p q, xs, hs => isW j = true ∧ isW x = true ∧ rP hd p (xs ++ [x]) hs ∧ rP hd q xs (hs ++ [j])
structure RTE (hF : Str → Option Nat) (e : TEr) : Prop where
  w : isW e.1 = true
  ws : ∀ x ∈ e.2.1, isW x = true
  n4 : e.2.1.length ≤ 5
  ok : rP hF e.2.2 e.2.1 ["home"]
  cn : pcnt e.2.2 ≤ 900
  hf : hF e.1 = some e.2.1.length
  nd : e.2.1.Nodup
theorem hasN_of {hd : Str → Option Nat} {env : Env} : ∀ {t : Tm} {xs : List Str}, simple t = true → okS hd t xs → (∀ x ∈ xs, ∃ z, env x = some z) → hasN env t := by
  intro t
  induction t with
  | mk h n k ih =>
    intro xs hs ho he
    obtain ⟨hf, hk⟩ := simple_mk hs
    obtain ⟨o1, o2⟩ := ho
    refine ⟨?_, fun i => ih i (hk i) ?_ he⟩
    · cases h with
      | nam x => exact he x o1
      | _ => exact trivial
    · have e := o2 i
      cases h with
      | lett x => exact absurd hf Bool.false_ne_true
      | _ => exact e
theorem SmT.rtm {hd : Str → Option Nat} {xs : List Str} {t : Tm} (h : SmT hd xs t) : RTm xs t := ⟨h.ok, h.si, fun env he => hasN_of h.si h.sc he, Nat.le_trans h.cn (by decide), h.ht.le (by decide)⟩
theorem rP_of {hd : Str → Option Nat} : ∀ {p : Pt} {xs js : List Str}, okP hd p xs js → rP hd p xs js
  | .give _ _, _, _, h => ⟨h.1, h.2.rtm⟩
  | .ask _ _ _, _, _, h => ⟨h.1, h.2.1, h.2.2.1, h.2.2.2.1, fun t ht => (h.2.2.2.2 t ht).rtm⟩
  | .tell _ _ _, _, _, h => ⟨h.1, h.2.1.rtm, rP_of h.2.2⟩
  | .lett _ _ _, _, _, h => ⟨h.1, h.2.1.rtm, rP_of h.2.2⟩
  | .iff _ _ _, _, _, h => ⟨h.1.rtm, rP_of h.2.1, rP_of h.2.2⟩
  | .post _ _ _ _, _, _, h => ⟨h.1, h.2.1, rP_of h.2.2.1, rP_of h.2.2.2⟩
theorem GdTE.rt {hd : Str → Option Nat} {e : TEr} (g : GdTE hd e) : RTE hd e := ⟨g.w, g.ws, Nat.le_trans g.n4 (by decide), rP_of g.ok, Nat.le_trans g.cn (by decide), g.hf, (List.nodup_append.mp g.un).1⟩

/-! ### a turned run as a machine of data; wt and lim are for its end alone -/
inductive Ev | ask (f : Str) (ns : List Int) | tell (z : Int)
inductive Fe | no | done (z : Int) | long
/-- a hand-on that was made: its word, T, what was around it (hand-ons by number, 0 the end), how high it is -/
structure HR where
  x : Str
  T : Pt
  env : Env
  hs : Str → Option Nat
  h : Int
  wt : Nat
structure CT where
  most : Nat
  asked : Nat
  trail : List Ev
  fin : Fe
  deepest : Int
  made : Int
  part : Pt
  env : Env
  hs : Str → Option Nat
  tab : List HR
  lim : Nat
def setE (env : Env) (x : Str) (z : Int) : Env := fun y => if y = x then some z else env y
def setH (hs : Str → Option Nat) (j : Str) (i : Nat) : Str → Option Nat := fun y => if y = j then some i else hs y
def envOf : List Str → List Int → Env
  | x :: xs, n :: ns => fun y => if y = x then some n else envOf xs ns y
  | _, _ => fun _ => none
def wtAt (tab : List HR) : Nat → Nat
  | 0 => 0
  | k + 1 => (tab[k]?.map (·.wt)).getD 0
def hiAt (tab : List HR) : Nat → Int
  | 0 => 0
  | k + 1 => (tab[k]?.map (·.h)).getD 0
def hAt (hs : Str → Option Nat) (j : Str) : Nat := (hs j).getD 0
def askT (es : List TEr) (c : CT) (f : Str) (ns : List Int) (i : Nat) : CT :=
  if c.asked = c.most then { c with fin := .long } else
  match es.find? (fun e => decide (e.1 = f)) with
  | none => c
  | some e => { c with asked := c.asked + 1, trail := c.trail ++ [.ask f ns], deepest := max c.deepest (hiAt c.tab i), part := e.2.2, env := envOf e.2.1 ns, hs := fun y => if y = "home" then some i else none }
def stepT (es : List TEr) (c : CT) : CT :=
  match c.part with
  | .give j t =>
    match hAt c.hs j with
    | 0 => { c with fin := .done (evS c.env t) }
    | k + 1 =>
      match c.tab[k]? with
      | none => c
      | some r => { c with part := r.T, env := setE r.env r.x (evS c.env t), hs := r.hs, lim := r.wt - pcnt r.T }
  | .ask f ts j => askT es c f (ts.map (evS c.env)) (hAt c.hs j)
  | .tell x t p => { c with trail := c.trail ++ [.tell (evS c.env t)], env := setE c.env x (evS c.env t), part := p }
  | .lett x t p => { c with env := setE c.env x (evS c.env t), part := p }
  | .iff t p q => { c with part := if evS c.env t = 0 then q else p }
  | .post j x p q => { c with made := c.made + 1, tab := c.tab ++ [⟨x, p, c.env, c.hs, hiAt c.tab (hAt c.hs "home") + 1, pcnt p + c.lim⟩], hs := setH c.hs j (c.tab.length + 1), part := q, lim := pcnt p + c.lim }

/-! ### what holds all along -/
def fU : Fe → Nat
  | .no => 1
  | _ => 0
def muB (B : Nat) (c : CT) : Nat := (c.most - c.asked) * B + (pcnt c.part + c.lim) + fU c.fin
def muT (c : CT) : Nat := muB 1000 c
theorem pcnt_pos (p : Pt) : 1 ≤ pcnt p := by
  cases p <;> unfold pcnt <;> omega
/-- words and hand-ons are around, up to so many hand-ons -/
structure InE (hd : Str → Option Nat) (tab : List HR) (n : Nat) (p : Pt) (env : Env) (hs : Str → Option Nat) (xs js : List Str) (lim : Nat) : Prop where
  ok : rP hd p xs js
  e : ∀ x ∈ xs, ∃ z, env x = some z
  h : ∀ j ∈ js, ∃ i, hs j = some i
  b : ∀ j i, hs j = some i → i ≤ n ∧ wtAt tab i ≤ lim
  m : ("home" : Str) ∈ js
structure RecOk (hd : Str → Option Nat) (tab : List HR) (k : Nat) (r : HR) : Prop where
  sc : ∃ xs js, InE hd tab k r.T (setE r.env r.x 0) r.hs (xs ++ [r.x]) js (r.wt - pcnt r.T)
  w : pcnt r.T ≤ r.wt
structure WfT (es : List TEr) (hd : Str → Option Nat) (c : CT) : Prop where
  go : c.fin = .no
  as_ : c.asked ≤ c.most
  at_ : ∃ xs js, InE hd c.tab c.tab.length c.part c.env c.hs xs js c.lim
  tb : ∀ (k : Nat) (r : HR), c.tab[k]? = some r → RecOk hd c.tab k r
structure TEsOk (es : List TEr) (hd : Str → Option Nat) : Prop where
  er : ∀ e ∈ es, RTE hd e
  dom : ∀ f n, hd f = some n → f ∈ es.map (·.1)
theorem TEsOk.found {es : List TEr} {hd : Str → Option Nat} (E : TEsOk es hd) {f : Str} {n : Nat} (h : hd f = some n) : ∃ e, es.find? (fun e => decide (e.1 = f)) = some e ∧ e ∈ es ∧ e.1 = f ∧ e.2.1.length = n := by
  obtain ⟨e0, h0, h1⟩ := List.mem_map.mp (E.dom f n h)
  cases hf : es.find? (fun e => decide (e.1 = f)) with
  | none => exact absurd (decide_eq_true h1) (List.find?_eq_none.mp hf e0 h0)
  | some e =>
    have hm := List.mem_of_find?_eq_some hf
    have he : e.1 = f := of_decide_eq_true (List.find?_some (p := fun e : TEr => decide (e.1 = f)) hf)
    have g := (E.er e hm).hf
    rw [he, h] at g
    exact ⟨e, rfl, hm, he, (Option.some.inj g).symm⟩
theorem envOf_some : ∀ {xs : List Str} {ns : List Int} {x : Str}, xs.length = ns.length → x ∈ xs → ∃ z, envOf xs ns x = some z
  | [], _, _, _, h => by cases h
  | _ :: _, [], _, h, _ => by simp at h
  | y :: ys, n :: ns, x, hl, h => by
    by_cases c : x = y
    · exact ⟨n, if_pos c⟩
    · obtain ⟨z, hz⟩ := envOf_some (xs := ys) (ns := ns) (by simpa using hl) (by
        rcases List.mem_cons.mp h with q | q
        · exact absurd q c
        · exact q)
      exact ⟨z, (if_neg c).trans hz⟩
theorem wtAt_app {tab : List HR} {r : HR} {i : Nat} (h : i ≤ tab.length) : wtAt (tab ++ [r]) i = wtAt tab i := by
  cases i with
  | zero => rfl
  | succ k =>
    show (((tab ++ [r])[k]?).map (·.wt)).getD 0 = ((tab[k]?).map (·.wt)).getD 0
    rw [List.getElem?_append_left (by omega)]
theorem wtAt_last {tab : List HR} {r : HR} : wtAt (tab ++ [r]) (tab.length + 1) = r.wt := by
  show (((tab ++ [r])[tab.length]?).map (·.wt)).getD 0 = r.wt
  rw [List.getElem?_append_right (Nat.le_refl _), Nat.sub_self]
  rfl
theorem InE.app {hd : Str → Option Nat} {tab : List HR} {r : HR} {n : Nat} {p : Pt} {env : Env} {hs : Str → Option Nat} {xs js : List Str} {lim : Nat} (I : InE hd tab n p env hs xs js lim) (hn : n ≤ tab.length) : InE hd (tab ++ [r]) n p env hs xs js lim :=
  ⟨I.ok, I.e, I.h, fun j i e => let ⟨a, b⟩ := I.b j i e; ⟨a, by rw [wtAt_app (by omega)]; exact b⟩, I.m⟩
theorem setE_some {env : Env} {xs : List Str} {x : Str} {z : Int} (h : ∀ y ∈ xs, ∃ z, env y = some z) : ∀ y ∈ xs ++ [x], ∃ w, setE env x z y = some w := by
  intro y hy
  unfold setE
  by_cases c : y = x
  · exact ⟨z, if_pos c⟩
  · rw [if_neg c]
    rcases List.mem_append.mp hy with q | q
    · exact h y q
    · exact absurd (List.mem_singleton.mp q) c
/-- one step keeps it, and something falls -/
theorem wf_stepB {es : List TEr} {hd : Str → Option Nat} (E : TEsOk es hd) {B : Nat} (hB : ∀ e ∈ es, pcnt e.2.2 < B) {c : CT} (w : WfT es hd c) : (WfT es hd (stepT es c) ∨ (stepT es c).fin ≠ .no) ∧ muB B (stepT es c) < muB B c := by
  obtain ⟨xs, js, I⟩ := w.at_
  have hgo := w.go
  have ok := I.ok
  cases hp : c.part with
  | give j t =>
    rw [hp] at ok
    obtain ⟨i, hi⟩ := I.h j ok.1
    have hA : hAt c.hs j = i := by
      unfold hAt
      rw [hi]
      rfl
    obtain ⟨bi, bw⟩ := I.b j i hi
    cases i with
    | zero =>
      have eS : stepT es c = { c with fin := .done (evS c.env t) } := by
        unfold stepT
        rw [hp]
        show (match hAt c.hs j with | 0 => _ | k + 1 => _) = _
        rw [hA]
      rw [eS]
      refine ⟨.inr (fun z => by cases z), ?_⟩
      unfold muB
      rw [hgo]
      show (c.most - c.asked) * B + (pcnt c.part + c.lim) + 0 < (c.most - c.asked) * B + (pcnt c.part + c.lim) + 1
      omega
    | succ k =>
      have hk : k < c.tab.length := by omega
      have hr : c.tab[k]? = some c.tab[k] := List.getElem?_eq_getElem hk
      generalize c.tab[k] = r at hr
      have R := w.tb k r hr
      have hw : wtAt c.tab (k + 1) = r.wt := by
        show ((c.tab[k]?).map (·.wt)).getD 0 = r.wt
        rw [hr]
        rfl
      rw [hw] at bw
      have eS : stepT es c = { c with part := r.T, env := setE r.env r.x (evS c.env t), hs := r.hs, lim := r.wt - pcnt r.T } := by
        unfold stepT
        rw [hp]
        show (match hAt c.hs j with | 0 => _ | k + 1 => _) = _
        rw [hA]
        show (match c.tab[k]? with | none => c | some r => _) = _
        rw [hr]
      rw [eS]
      obtain ⟨xs', js', J⟩ := R.sc
      refine ⟨.inl ⟨hgo, w.as_, ⟨xs' ++ [r.x], js', J.ok, ?_, J.h, fun j i e => let ⟨a, b⟩ := J.b j i e; ⟨by show i ≤ c.tab.length; omega, b⟩, J.m⟩, w.tb⟩, ?_⟩
      · intro y hy
        obtain ⟨z, hz⟩ := J.e y hy
        show ∃ z, setE r.env r.x (evS c.env t) y = some z
        unfold setE at hz ⊢
        by_cases q : y = r.x
        · exact ⟨_, if_pos q⟩
        · rw [if_neg q] at hz ⊢
          exact ⟨z, hz⟩
      · have h1 := R.w
        unfold muB
        rw [hp]
        show (c.most - c.asked) * B + (pcnt r.T + (r.wt - pcnt r.T)) + fU c.fin < (c.most - c.asked) * B + (1 + c.lim) + fU c.fin
        omega
  | ask f ts j =>
    rw [hp] at ok
    obtain ⟨i, hi⟩ := I.h j ok.1
    have hA : hAt c.hs j = i := by
      unfold hAt
      rw [hi]
      rfl
    obtain ⟨bi, bw⟩ := I.b j i hi
    have eS : stepT es c = askT es c f (ts.map (evS c.env)) (hAt c.hs j) := by
      unfold stepT
      rw [hp]
    rw [eS, hA]
    obtain ⟨e, f1, f2, f3, f4⟩ := E.found ok.2.2.1
    have ge := E.er e f2
    unfold askT
    by_cases ha : c.asked = c.most
    · rw [if_pos ha]
      refine ⟨.inr (fun z => by cases z), ?_⟩
      unfold muB
      rw [hgo]
      show (c.most - c.asked) * B + (pcnt c.part + c.lim) + 0 < (c.most - c.asked) * B + (pcnt c.part + c.lim) + 1
      omega
    · rw [if_neg ha, f1]
      have has := w.as_
      refine ⟨.inl ⟨hgo, by show c.asked + 1 ≤ c.most; omega, ⟨e.2.1, ["home"], ge.ok, fun x hx => envOf_some (by rw [f4, List.length_map]) hx, fun y hy => ⟨i, if_pos (List.mem_singleton.mp hy)⟩, fun y i2 h2 => ?_, List.mem_cons_self⟩, w.tb⟩, ?_⟩
      · have h2 : (if y = "home" then some i else none) = some i2 := h2
        by_cases q : y = "home"
        · rw [if_pos q] at h2
          cases h2
          exact ⟨bi, bw⟩
        · rw [if_neg q] at h2
          cases h2
      · have hc := hB e f2
        have hmul : (c.most - c.asked) * B = (c.most - (c.asked + 1)) * B + B := by
          have e1 : c.most - c.asked = (c.most - (c.asked + 1)) + 1 := by omega
          rw [e1, Nat.succ_mul]
        have hpp := pcnt_pos c.part
        unfold muB
        show (c.most - (c.asked + 1)) * B + (pcnt e.2.2 + c.lim) + fU c.fin < (c.most - c.asked) * B + (pcnt c.part + c.lim) + fU c.fin
        omega
  | tell x t p =>
    rw [hp] at ok
    have eS : stepT es c = { c with trail := c.trail ++ [.tell (evS c.env t)], env := setE c.env x (evS c.env t), part := p } := by
      unfold stepT
      rw [hp]
    rw [eS]
    refine ⟨.inl ⟨hgo, w.as_, ⟨xs ++ [x], js, ok.2.2, setE_some I.e, I.h, I.b, I.m⟩, w.tb⟩, ?_⟩
    unfold muB
    rw [hp]
    show (c.most - c.asked) * B + (pcnt p + c.lim) + fU c.fin < (c.most - c.asked) * B + (1 + pcnt p + c.lim) + fU c.fin
    omega
  | lett x t p =>
    rw [hp] at ok
    have eS : stepT es c = { c with env := setE c.env x (evS c.env t), part := p } := by
      unfold stepT
      rw [hp]
    rw [eS]
    refine ⟨.inl ⟨hgo, w.as_, ⟨xs ++ [x], js, ok.2.2, setE_some I.e, I.h, I.b, I.m⟩, w.tb⟩, ?_⟩
    unfold muB
    rw [hp]
    show (c.most - c.asked) * B + (pcnt p + c.lim) + fU c.fin < (c.most - c.asked) * B + (1 + pcnt p + c.lim) + fU c.fin
    omega
  | iff t p q =>
    rw [hp] at ok
    have eS : stepT es c = { c with part := if evS c.env t = 0 then q else p } := by
      unfold stepT
      rw [hp]
    rw [eS]
    refine ⟨.inl ⟨hgo, w.as_, ⟨xs, js, ?_, I.e, I.h, I.b, I.m⟩, w.tb⟩, ?_⟩
    · show rP hd (if evS c.env t = 0 then q else p) xs js
      split
      · exact ok.2.2
      · exact ok.2.1
    · unfold muB
      rw [hp]
      show (c.most - c.asked) * B + (pcnt (if evS c.env t = 0 then q else p) + c.lim) + fU c.fin < (c.most - c.asked) * B + (1 + pcnt p + pcnt q + c.lim) + fU c.fin
      split <;> omega
  | post j x p q =>
    rw [hp] at ok
    have eS : stepT es c = { c with made := c.made + 1, tab := c.tab ++ [⟨x, p, c.env, c.hs, hiAt c.tab (hAt c.hs "home") + 1, pcnt p + c.lim⟩], hs := setH c.hs j (c.tab.length + 1), part := q, lim := pcnt p + c.lim } := by
      unfold stepT
      rw [hp]
    rw [eS]
    refine ⟨.inl ⟨hgo, w.as_, ⟨xs, js ++ [j], ok.2.2.2, I.e, ?_, ?_, List.mem_append_left _ I.m⟩, ?_⟩, ?_⟩
    · intro y hy
      show ∃ i, setH c.hs j (c.tab.length + 1) y = some i
      unfold setH
      by_cases e : y = j
      · exact ⟨_, if_pos e⟩
      · rw [if_neg e]
        rcases List.mem_append.mp hy with z | z
        · exact I.h y z
        · exact absurd (List.mem_singleton.mp z) e
    · intro y i hi
      have hi : (if y = j then some (c.tab.length + 1) else c.hs y) = some i := hi
      show i ≤ (c.tab ++ [_]).length ∧ wtAt (c.tab ++ [_]) i ≤ pcnt p + c.lim
      rw [List.length_append]
      by_cases e : y = j
      · rw [if_pos e] at hi
        cases hi
        refine ⟨Nat.le_refl _, ?_⟩
        rw [wtAt_last]
        exact Nat.le_refl _
      · rw [if_neg e] at hi
        obtain ⟨a, b⟩ := I.b y i hi
        refine ⟨by omega, ?_⟩
        rw [wtAt_app a]
        omega
    · intro k r hk
      by_cases hlt : k < c.tab.length
      · have hk : (c.tab ++ [_])[k]? = some r := hk
        rw [List.getElem?_append_left hlt] at hk
        have R := w.tb k r hk
        obtain ⟨xs', js', J⟩ := R.sc
        exact ⟨⟨xs', js', J.app (by omega)⟩, R.w⟩
      · have hk : (c.tab ++ [_])[k]? = some r := hk
        have hlen := (List.getElem?_eq_some_iff.mp hk).1
        rw [List.length_append, List.length_singleton] at hlen
        have hk2 : k = c.tab.length := by omega
        subst hk2
        rw [List.getElem?_append_right (Nat.le_refl _), Nat.sub_self] at hk
        have hr := (Option.some.inj hk).symm
        subst hr
        refine ⟨⟨xs, js, (InE.mk ok.2.2.1 (setE_some I.e) I.h (fun y i e => ?_) I.m : InE hd c.tab c.tab.length p _ _ _ _ _).app (Nat.le_refl _)⟩, Nat.le_add_right _ _⟩
        obtain ⟨a, b⟩ := I.b y i e
        refine ⟨a, ?_⟩
        show wtAt c.tab i ≤ pcnt p + c.lim - pcnt p
        omega
    · unfold muB
      rw [hp]
      show (c.most - c.asked) * B + (pcnt q + (pcnt p + c.lim)) + fU c.fin < (c.most - c.asked) * B + (1 + pcnt p + pcnt q + c.lim) + fU c.fin
      omega
theorem wf_stepT {es : List TEr} {hd : Str → Option Nat} (E : TEsOk es hd) {c : CT} (w : WfT es hd c) : (WfT es hd (stepT es c) ∨ (stepT es c).fin ≠ .no) ∧ muT (stepT es c) < muT c := wf_stepB E (fun e he => by have := (E.er e he).cn; omega) w
end KB

namespace KB
open PySem L2 HT LamX NdefX

/-! ### simple terms as a tree -/
/-- what is asked of the numbers' table: a name for the number of each word -/
def EnvAt (H : Hp) (env : Env) (b : Addr) : Prop := ∃ kvs : List (Key × V), H b = some (.dK kvs) ∧ kvs.length ≤ 1000 ∧ ∀ x : Str, valV kvs (Sum.inr x) = (env x).map V.int
theorem EnvAt.sx {H H' : Hp} (s : Sx H H') {env : Env} {b : Addr} (h : EnvAt H env b) : EnvAt H' env b := let ⟨kvs, h1, h2⟩ := h; ⟨kvs, s.d h1, h2⟩
section
variable {P : Program} {w : World} {K : PySem.W.Frag} {mg : Str → Option Value} {base : Heap}
/-! ### combined -/
/-! ### number_by_parts -/
/-! ### number_of -/
end
end KB

namespace KB
open PySem L2 HT

section
variable {P : Program} {w : World} {K : PySem.W.Frag} {mg : Str → Option Value} {base : Heap}
/-! ### _law_numbers -/
def numsL : List V := [.int 0, .int 1, .int 2, .int 3, .int 4, .int 5, .int 7, .int 999]
theorem numsL_int {v : V} (h : v ∈ numsL) : ∃ z : Int, v = .int z ∧ 0 ≤ z ∧ z < 1000 := by
  have e : numsL = ([0, 1, 2, 3, 4, 5, 7, 999] : List Int).map V.int := rfl
  rw [e] at h
  obtain ⟨z, hz, rfl⟩ := List.mem_map.mp h
  have : ∀ x ∈ ([0, 1, 2, 3, 4, 5, 7, 999] : List Int), 0 ≤ x ∧ x < 1000 := by decide
  exact ⟨z, rfl, this z hz⟩
def spNums : Sp := fun vs H Q _ => ∃ (tp : Addr) (n : Nat), vs = [.ref tp, .int n] ∧ Tp H tp ∧ n ≤ 100 ∧ ∀ (p : Addr) (H' : Hp) (ns : List Int), H p = none → But1 tp H H' → Tp H' tp → H' p = some (.tup (ns.map V.int)) → ns.length = n → (∀ z ∈ ns, 0 ≤ z ∧ z < 1000) → Q (.ref p) H'
abbrev s_law_numbers : Stmt := top 29
theorem scLnumbers : FnScope ["tape", "many", "k"] ["tape", "many"] (defScope s_law_numbers) := ⟨rfl, rfl, rfl, by decide +kernel, rfl, by decide +kernel, by decide +kernel⟩
theorem ok_nums (T : Txt K mg) {f g : Addr} {fd gd : FuncData} (F : Fun K "_law_numbers" "_law_numbers" s_law_numbers f fd) (G_law_digit : FnOk P w K mg base CX0 1 g gd ["tape", "many"] spDig) (R_law_digit : Ref K mg "_law_digit" g gd ["tape", "many"]) : FnOk P w K mg base CX0 2 f fd ["tape", "many"] spNums := by
  refine F.ok scLnumbers (fun vs H Q E h => ?_) (fun cdv A outer s H vs Q E hr h => ?_)
  · obtain ⟨tp, n, rfl, _⟩ := h
    rfl
  obtain ⟨tp, n, rfl, ht, hn, q⟩ := h
  refine ⟨_, (pss_one (ps_ret (pe_callTy call_tuple_of (by rfl) T.m_tuple (by decide +kernel) (pa_cons (pe_lc (own := [("k", 2)]) (g := gName 2) (te := tOp (rIxL K) (tLst (tCons (tC (.int 0)) (tCons (tC (.int 1)) (tCons (tC (.int 2)) (tCons (tC (.int 3)) (tCons (tC (.int 4)) (tCons (tC (.int 5)) (tCons (tC (.int 7)) (tCons (tC (.int 999)) tNil))))))))) (tCall spDig [] E0 (tCons (tVar 0) (tCons (tC (.int 8)) tNil)))) (by rfl) scLnumbers.nd (pi_range1 rfl T.m_range (pa_cons (pv 1) pa_nil)) (blkOk_by (own := [("k", 2)]) (N := ["tape", "many", "k"]) (sc := defScope s_law_numbers) (by decide +kernel)) (fun _ _ _ _ _ => (pg_name (i := 2) scLnumbers.nd rfl (Or.inl rfl))) (fun _ _ _ _ _ => pts_nil) (fun _ _ _ _ _ => (pe_ix ix_list (pe_lst (pa_cons pe_int (pa_cons pe_int (pa_cons pe_int (pa_cons pe_int (pa_cons pe_int (pa_cons pe_int (pa_cons pe_int (pa_cons pe_int pa_nil))))))))) (pe_call G_law_digit (hr.mono (by omega)) rfl R_law_digit.m R_law_digit.k R_law_digit.b .nil pass0 (pa_cons (pv 0) (pa_cons pe_int pa_nil))) (fun _ _ => rfl)))) pa_nil)))), ?_⟩
  have htn : ∀ {x : Addr} {H' : Hp}, Tp H' tp → H' x = none → x ≠ tp := fun {x H'} t hx => by
    obtain ⟨z, hz⟩ := t
    exact (ne_of_none hz hx).symm
  refine ⟨_, rfl, n, rfl, by omega, by omega, fun D hD => lc_range (lo := 0) (n := n) (fun i H' => But1 tp H H' ∧ Tp H' tp ∧ ∃ ns : List Int, H' D = some (.lst (ns.map V.int)) ∧ ns.length = i ∧ ∀ z ∈ ns, 0 ≤ z ∧ z < 1000) ⟨but_same (same_new hD _), ht.same (same_new hD _), [], upd_same, rfl, fun z hz => by cases hz⟩ ?_ ?_⟩
  · rintro i H1 hi ⟨b1, t1, ns, h1, hl, hz⟩
    have nD : D ≠ tp := htn ht hD
    refine ⟨rfl, ?_⟩
    dsimp only [tYes]
    refine iteT ?_
    refine ⟨sz (by show 8 ≤ 100000; decide), fun p hp => ?_⟩
    have s2 := same_new hp (.lst numsL)
    have np : p ≠ tp := htn t1 hp
    refine ⟨_, rfl, tp, 8, rfl, t1.same s2, by decide, by decide, fun r H3 r0 r1 b3 t3 => ?_⟩
    obtain ⟨v, hv, hm⟩ := at_some (xs := numsL) r0 r1
    obtain ⟨z, rfl, hz1⟩ := numsL_int hm
    refine ⟨p, _, _, _, rfl, rfl, SqL.of (b3 _ _ np upd_same), hv, ?_⟩
    have h3 := b3 _ _ nD (s2 _ _ h1)
    refine ⟨_, h3, Nat.lt_of_le_of_lt (m := 100) (by rw [List.length_map]; omega) (by decide), ?_⟩
    have bA := (b1.trans (but_same s2)).trans b3
    refine ⟨fun b o hb ho => ?_, ?_, ns ++ [z], ?_, by rw [List.length_append, hl]; rfl, fun y hy => ?_⟩
    · rw [upd_ne (ne_of_none ho hD)]
      exact bA b o hb ho
    · obtain ⟨y, hy⟩ := t3
      exact ⟨y, by rw [upd_ne nD.symm]; exact hy⟩
    · rw [upd_same, List.map_append]
      rfl
    · rcases List.mem_append.mp hy with h | h
      · exact hz y h
      · rw [List.mem_singleton.mp h]
        exact hz1
  · rintro H1 ⟨b1, t1, ns, h1, hl, hz⟩
    refine ⟨D, _, rfl, .inl ⟨SqL.of h1, fun p hp => ?_⟩⟩
    have s2 := same_new hp (.tup (ns.map V.int))
    refine q p _ ns ?_ (b1.trans (but_same s2)) (t1.same s2) upd_same hl hz
    cases e : H p with
    | none => rfl
    | some o =>
      rw [b1 _ _ (htn t1 hp) e] at hp
      cases hp
end
end KB

namespace KB
open PySem L2 HT LamX NdefX

variable {CR : Addr}
/-! ### what stays where objects of classes are written -/
def Ix (CR : Addr) (H H' : Hp) : Prop := (∀ b o, H b = some o → (∀ d fs, o ≠ .ins CR d fs) → (∀ ps, o ≠ .tbl ps) → H' b = some o) ∧ ∀ b, H' b = none → H b = none
theorem Ix.refl (H : Hp) : Ix CR H H := ⟨fun _ _ z _ _ => z, fun _ z => z⟩
theorem Ix.trans {H H1 H2 : Hp} (a : Ix CR H H1) (b : Ix CR H1 H2) : Ix CR H H2 := ⟨fun x o h n m => b.1 x o (a.1 x o h n m) n m, fun x z => a.2 x (b.2 x z)⟩
theorem Ix.free {H H' : Hp} (s : Ix CR H H') {b : Addr} (z : H' b = none) : H b = none := s.2 b z
theorem Ix.t {H H' : Hp} (s : Ix CR H H') {b : Addr} {xs : List V} (h : H b = some (.tup xs)) : H' b = some (.tup xs) := s.1 b _ h (fun _ _ z => nomatch z) fun _ z => nomatch z
theorem Ix.l {H H' : Hp} (s : Ix CR H H') {b : Addr} {xs : List V} (h : H b = some (.lst xs)) : H' b = some (.lst xs) := s.1 b _ h (fun _ _ z => nomatch z) fun _ z => nomatch z
theorem Ix.d {H H' : Hp} (s : Ix CR H H') {b : Addr} {kvs : List (Key × V)} (h : H b = some (.dK kvs)) : H' b = some (.dK kvs) := s.1 b _ h (fun _ _ z => nomatch z) fun _ z => nomatch z
theorem Ix.tk {H H' : Hp} (s : Ix CR H H') : TK H H' := fun _ _ h => s.t h
theorem ix_sx {H H' : Hp} (s : Sx H H') : Ix CR H H' := ⟨fun b o h _ m => s.1 b o h m, s.2⟩
theorem ix_same {H H' : Hp} (s : Same H H') : Ix CR H H' := ix_sx (sx_same s)
theorem ix_mut {H H' : Hp} (s : Ix CR H H') {a : Addr} (h : H a = none) (o : HO) : Ix CR H (upd H' a o) := by
  refine ⟨fun b u z n m => ?_, fun b z => ?_⟩
  · rw [upd_ne (ne_of_none z h)]
    exact s.1 b u z n m
  · by_cases e : b = a
    · rw [e]; exact h
    · rw [upd_ne e] at z
      exact s.2 b z
/-! ### words and hand-ons around -/
abbrev HsT := Str → Option Nat
def EnvN (H : Hp) (env : Env) (n : Nat) (b : Addr) : Prop := ∃ kvs : List (Key × V), H b = some (.dK kvs) ∧ kvs.length ≤ n ∧ ∀ x : Str, valV kvs (Sum.inr x) = (env x).map V.int
theorem EnvN.ix {H H' : Hp} (s : Ix CR H H') {env : Env} {n : Nat} {b : Addr} (h : EnvN H env n b) : EnvN H' env n b := let ⟨kvs, h1, h2⟩ := h; ⟨kvs, s.d h1, h2⟩
theorem EnvN.at_ {H : Hp} {env : Env} {n : Nat} {b : Addr} (h : EnvN H env n b) (hn : n ≤ 1000) : EnvAt H env b := let ⟨kvs, h1, h2, h3⟩ := h; ⟨kvs, h1, Nat.le_trans h2 hn, h3⟩
theorem putK_len {kvs : List (Key × V)} {k : Key} {v : V} : (putK kvs k v).length ≤ kvs.length + 1 := by
  unfold putK
  split
  · rw [List.length_map]
    exact Nat.le_succ _
  · rw [List.length_append]
    exact Nat.le_refl _
theorem EnvN.le {H : Hp} {env : Env} {n m : Nat} {b : Addr} (e : n ≤ m) (h : EnvN H env n b) : EnvN H env m b := let ⟨kvs, h1, h2, h3⟩ := h; ⟨kvs, h1, Nat.le_trans h2 e, h3⟩
theorem env_put {kvs : List (Key × V)} {env : Env} {x : Str} {z : Int} (h : ∀ y : Str, valV kvs (Sum.inr y) = (env y).map V.int) : ∀ y : Str, valV (putK kvs (Sum.inr x) (.int z)) (Sum.inr y) = (setE env x z y).map V.int := by
  intro y
  rw [valV_put]
  unfold setE
  by_cases c : y = x
  · rw [if_pos c, c, if_pos rfl]
    rfl
  · rw [if_neg c, if_neg (fun e => c (Sum.inr.inj e))]
    exact h y
/-! ### a part passed, as data -/
/-- hand-ons, whatever they are kept as -/
structure GM (CR : Addr) (G : Type) where
  new : G → Str → Pt → Env → HsT → G
  nid : G → Nat
  HV : Hp → G → Nat → V → Prop
  ix : ∀ {H H' : Hp} {g : G} {i : Nat} {v : V}, Ix CR H H' → HV H g i v → HV H' g i v
  mu : ∀ {H : Hp} {a : Addr} {xs : List V} {o : HO} {g : G} {i : Nat} {v : V}, H a = some (.lst xs) → HV H g i v → HV (upd H a o) g i v
  mono : ∀ {H : Hp} {g : G} {x : Str} {p : Pt} {env : Env} {hs : HsT} {i : Nat} {v : V}, HV H g i v → HV H (new g x p env hs) i v
def HdN {G : Type} (M : GM CR G) (g : G) (H : Hp) (hs : HsT) (n : Nat) (b : Addr) : Prop := ∃ kvs : List (Key × V), H b = some (.dK kvs) ∧ kvs.length ≤ n ∧ ∀ (j : Str) (i : Nat), hs j = some i → ∃ v, M.HV H g i v ∧ valV kvs (Sum.inr j) = some v
theorem HdN.ix {G : Type} {M : GM CR G} {g : G} {H H' : Hp} (s : Ix CR H H') {hs : HsT} {n : Nat} {b : Addr} (h : HdN M g H hs n b) : HdN M g H' hs n b := let ⟨kvs, h1, h2, h3⟩ := h; ⟨kvs, s.d h1, h2, fun j i e => let ⟨v, a, c⟩ := h3 j i e; ⟨v, M.ix s a, c⟩⟩
theorem HdN.le {G : Type} {M : GM CR G} {g : G} {H : Hp} {hs : HsT} {n m : Nat} {b : Addr} (e : n ≤ m) (h : HdN M g H hs n b) : HdN M g H hs m b := let ⟨kvs, h1, h2, h3⟩ := h; ⟨kvs, h1, Nat.le_trans h2 e, h3⟩
/-- what is around, told by words and hand-ons -/
structure Sc (p : Pt) (env : Env) (hs : HsT) : Prop where
  ok : ∃ hd xs js, rP hd p xs js ∧ (∀ x ∈ xs, ∃ z, env x = some z) ∧ (∀ j ∈ js, ∃ i, hs j = some i) ∧ ("home" : Str) ∈ js
theorem Sc.home {p : Pt} {env : Env} {hs : HsT} (h : Sc p env hs) : ∃ i, hs "home" = some i := let ⟨_, _, _, _, _, c, d⟩ := h.ok; c _ d
section
variable {P : Program} {w : World} {K : PySem.W.Frag} {mg : Str → Option Value} {base : Heap} {G : Type}
/-! ### passed -/
end
end KB

namespace KB
open PySem L2 HT
open PySem.Sem (wp)
open RZ (nextOf_tuple_item nextOf_tuple_end)

/-! ### dict(zip(xs, ys)) of two tuples: the pair that was given out stands still -/
section
variable {prog : Program} {w : World} {A : Around} {E : Value → Shared → Prop} {s : Shared}
structure ZT (h : Heap) (z TI i1 i2 l1 l2 : Addr) (xs ys : Array Value) (k : Nat) : Prop where
  pr : IsPair h TI (.ref i1) (.ref i2)
  a1 : h.IsTupleIter i1 l1 k
  a2 : h.IsTupleIter i2 l2 k
  t1 : h.IsTuple l1 xs
  t2 : h.IsTuple l2 ys
theorem ZT.at {h h' : Heap} {z TI i1 i2 l1 l2 : Addr} {xs ys : Array Value} {k : Nat} (x : ZT h z TI i1 i2 l1 l2 xs ys k) (e : ∀ c, c = TI ∨ c = i1 ∨ c = i2 ∨ c = l1 ∨ c = l2 → ∀ o, h.get? c = some o → h'.get? c = some o) :
    ZT h' z TI i1 i2 l1 l2 xs ys k :=
  ⟨e _ (by simp) _ x.pr, x.a1.at fun o => e _ (by simp) o, x.a2.at fun o => e _ (by simp) o, x.t1.at fun o => e _ (by simp) o, x.t2.at fun o => e _ (by simp) o⟩
end
end KB

namespace KB
open PySem L2 HT LamX NdefX

/-! ### the attributes of a TurnedRunning and a HandOn -/
structure TV where
  (errands most trail fin deepest made asked part words hands : V)
def fsT (r : TV) : List (Str × V) := [("errands", r.errands), ("most", r.most), ("trail", r.trail), ("end", r.fin), ("deepest", r.deepest), ("made", r.made), ("asked", r.asked), ("part", r.part), ("words", r.words), ("hands", r.hands)]
def fsH (p w h n : V) : List (Str × V) := [("post", p), ("words", w), ("hands", h), ("height", n)]
/-! ### hand-ons as objects -/
inductive HonAt (CH : Addr) (H : Hp) (tab : List HR) : Nat → V → Prop
  | fin (a dx wb hb : Addr) : H a = some (.ins CH dx (fsH .non (.ref wb) (.ref hb) (.int 0))) → HonAt CH H tab 0 (.ref a)
  | mk (k : Nat) (r : HR) (a dx pb wb hb : Addr) (n : Nat) (j : Str) (q : Pt) (kvs : List (Key × V)) (vf : Str → V) : tab[k]? = some r → H a = some (.ins CH dx (fsH (.ref pb) (.ref wb) (.ref hb) (.int r.h))) → PAt H (.post j r.x r.T q) pb → EnvN H r.env n wb →
      H hb = some (.dK kvs) → kvs.length ≤ n → n + 1 + pcnt r.T ≤ 1000 → (∀ j i, r.hs j = some i → valV kvs (Sum.inr j) = some (vf j)) → (∀ j i, r.hs j = some i → HonAt CH H tab i (vf j)) → HonAt CH H tab (k + 1) (.ref a)
theorem HonAt.keep {CH : Addr} {H H' : Hp} {tab tab' : List HR} (ht : ∀ (k : Nat) (r : HR), tab[k]? = some r → tab'[k]? = some r) (hi : ∀ a dx fs, H a = some (.ins CH dx fs) → H' a = some (.ins CH dx fs)) (htk : TK H H') (hd : ∀ a kvs, H a = some (.dK kvs) → H' a = some (.dK kvs)) :
    ∀ {i : Nat} {v : V}, HonAt CH H tab i v → HonAt CH H' tab' i v := by
  intro i v h
  induction h with
  | fin a dx wb hb h => exact .fin a dx wb hb (hi _ _ _ h)
  | mk k r a dx pb wb hb n j q kvs vf h1 h2 h3 h4 h5 h6 h7 h8 h9 ih =>
    obtain ⟨kvw, e1, e2⟩ := h4
    exact .mk k r a dx pb wb hb n j q kvs vf (ht _ _ h1) (hi _ _ _ h2) (PAt.tk htk h3) ⟨kvw, hd _ _ e1, e2⟩ (hd _ _ h5) h6 h7 h8 ih
structure TG where
  tab : List HR
  made : Int
  lim : Nat
def newG (g : TG) (x : Str) (p : Pt) (env : Env) (hs : HsT) : TG := ⟨g.tab ++ [⟨x, p, env, hs, hiAt g.tab (hAt hs "home") + 1, pcnt p + g.lim⟩], g.made + 1, pcnt p + g.lim⟩
theorem tab_app {tab : List HR} {r : HR} : ∀ (k : Nat) (s : HR), tab[k]? = some s → (tab ++ [r])[k]? = some s := fun k s h => by
  rw [List.getElem?_append_left (List.getElem?_eq_some_iff.mp h).1]
  exact h
def MT {CH CR : Addr} (ne : CH ≠ CR) : GM CR TG where
  new := newG
  nid g := g.tab.length + 1
  HV H g i v := HonAt CH H g.tab i v
  ix s h := h.keep (fun _ _ z => z) (fun a dx fs z => s.1 a _ z (fun d f e => ne (by cases e; rfl)) fun _ e => nomatch e) s.tk fun a kvs z => s.d z
  mu hl h := h.keep (fun _ _ z => z) (fun a dx fs z => by rw [upd_ne (ne_of z hl (fun e => nomatch e))]; exact z) (tk_put hl) fun a kvs z => by rw [upd_ne (ne_of z hl (fun e => nomatch e))]; exact z
  mono h := h.keep tab_app (fun _ _ _ z => z) (fun _ _ z => z) fun _ _ z => z
section
variable {P : Program} {w : World} {K : PySem.W.Frag} {mg : Str → Option Value} {base : Heap} {CH CR : Addr}
/-! ### HandOn(post, words, hands, height) -/
/-! ### make -/
end
end KB

namespace KB
open PySem L2 HT LamX NdefX

/-! ### steps in a row -/
inductive RchT (es : List TEr) : CT → CT → Prop
  | refl (c : CT) : RchT es c c
  | snoc {c c1 : CT} : RchT es c c1 → c1.fin = .no → RchT es c (stepT es c1)
theorem RchT.trans {es : List TEr} {a b c : CT} (h : RchT es a b) (k : RchT es b c) : RchT es a c := by
  induction k with
  | refl => exact h
  | snoc _ e ih => exact .snoc ih e
theorem RchT.one {es : List TEr} {c : CT} (h : c.fin = .no) : RchT es c (stepT es c) := .snoc (.refl c) h
theorem RchT.wf {es : List TEr} {hd : Str → Option Nat} (E : TEsOk es hd) {c c' : CT} (h : RchT es c c') (w : WfT es hd c) : (WfT es hd c' ∨ c'.fin ≠ .no) ∧ muT c' ≤ muT c := by
  induction h with
  | refl => exact ⟨.inl w, Nat.le_refl _⟩
  | snoc _ e ih =>
    obtain ⟨a, b⟩ := wf_stepT E (ih.1.resolve_right fun z => z e)
    exact ⟨a, by have := ih.2; omega⟩
/-- how long what is told gets -/
def szT (c : CT) : Nat := c.trail.length + muT c
theorem step_trail {es : List TEr} {c : CT} : (stepT es c).trail.length ≤ c.trail.length + 1 := by
  unfold stepT askT
  repeat' split
  all_goals first | exact Nat.le_succ _ | (show (c.trail ++ [_]).length ≤ _; rw [List.length_append]; exact Nat.le_refl _)
theorem RchT.sz {es : List TEr} {hd : Str → Option Nat} (E : TEsOk es hd) {c c' : CT} (h : RchT es c c') (w : WfT es hd c) : szT c' ≤ szT c := by
  induction h with
  | refl => exact Nat.le_refl _
  | @snoc c1 h e ih =>
    obtain ⟨a, b⟩ := wf_stepT E ((h.wf E w).1.resolve_right fun z => z e)
    have := step_trail (es := es) (c := c1)
    unfold szT at ih ⊢
    omega
/-- the run where a part is passed -/
def gOf (c : CT) : TG := ⟨c.tab, c.made, c.lim⟩
/-! ### how a run on its way stands in the heap -/
structure AdT where
  dx : Addr
  ed : Addr
  tl : Addr
  ev : V
  tv : List V
def FeV (H : Hp) : Fe → V → Prop
  | .no, v => v = .non
  | .done z, v => ∃ q, v = .ref q ∧ H q = some (.tup [.str "done", .int z])
  | .long, v => ∃ q, v = .ref q ∧ H q = some (.tup [.str "long"])
def EvV (H : Hp) : Ev → V → Prop
  | .ask f ns, v => ∃ q r, v = .ref q ∧ H q = some (.tup [.str "ask", .str f, .ref r]) ∧ H r = some (.tup (ns.map V.int))
  | .tell z, v => ∃ q, v = .ref q ∧ H q = some (.tup [.str "tell", .int z])
theorem FeV.tk {H H' : Hp} (e : TK H H') {f : Fe} {v : V} (h : FeV H f v) : FeV H' f v := by
  cases f with
  | no => exact h
  | done z => exact let ⟨q, a, b⟩ := h; ⟨q, a, e _ _ b⟩
  | long => exact let ⟨q, a, b⟩ := h; ⟨q, a, e _ _ b⟩
theorem EvV.tk {H H' : Hp} (e : TK H H') {f : Ev} {v : V} (h : EvV H f v) : EvV H' f v := by
  cases f with
  | ask f ns => exact let ⟨q, r, a, b, c⟩ := h; ⟨q, r, a, e _ _ b, e _ _ c⟩
  | tell z => exact let ⟨q, a, b⟩ := h; ⟨q, a, e _ _ b⟩
theorem FeV.no {H : Hp} {f : Fe} {v : V} (h : FeV H f v) : v = .non ↔ f = .no := by
  cases f with
  | no => exact ⟨fun _ => rfl, fun _ => h⟩
  | done z => exact ⟨fun e => (by obtain ⟨q, a, _⟩ := h; rw [e] at a; cases a), fun e => nomatch e⟩
  | long => exact ⟨fun e => (by obtain ⟨q, a, _⟩ := h; rw [e] at a; cases a), fun e => nomatch e⟩
/-- the errands' table -/
def ErT (H : Hp) (es : List TEr) (D : Addr) : Prop := ∃ kvs : List (Key × V), H D = some (.dK kvs) ∧ ∀ e ∈ es, ∃ qa r b, valV kvs (Sum.inr e.1) = some (.ref qa) ∧ H qa = some (.tup [.ref r, .ref b]) ∧ H r = some (.tup (e.2.1.map V.str)) ∧ PAt H e.2.2 b
theorem ErT.ix {CR : Addr} {H H' : Hp} (s : Ix CR H H') {es : List TEr} {D : Addr} (h : ErT H es D) : ErT H' es D :=
  let ⟨kvs, a, b⟩ := h; ⟨kvs, s.d a, fun e he => let ⟨qa, r, b, c1, c2, c3, c4⟩ := b e he; ⟨qa, r, b, c1, s.t c2, s.t c3, PAt.tk s.tk c4⟩⟩
def tvOf (a : AdT) (c : CT) (pv wv hv : V) : TV := ⟨.ref a.ed, .int (c.most : Int), .ref a.tl, a.ev, .int c.deepest, .int c.made, .int (c.asked : Int), pv, wv, hv⟩
/-- all but the part that is due -/
structure RunB (CR : Addr) (TT : List (Addr × Str)) (H0 H : Hp) (es : List TEr) (p : Addr) (c : CT) (a : AdT) (pv wv hv : V) : Prop where
  n0 : H0 p = none
  nt : H0 a.tl = none
  sx : Ix CR H0 H
  tt : Tabs TT H
  ob : H p = some (.ins CR a.dx (fsT (tvOf a c pv wv hv)))
  er : ErT H es a.ed
  tr : H a.tl = some (.lst a.tv)
  te : All2 (EvV H) c.trail a.tv
  ev : FeV H c.fin a.ev
/-- the part that is due, with what is around -/
def PartAt {CH CR : Addr} (ne : CH ≠ CR) (H : Hp) (c : CT) (pv wv hv : V) : Prop := ∃ (pa wb hb : Addr) (n : Nat), pv = .ref pa ∧ wv = .ref wb ∧ hv = .ref hb ∧ PAt H c.part pa ∧ EnvN H c.env n wb ∧ HdN (MT ne) (gOf c) H c.hs n hb ∧ n + pcnt c.part ≤ 1000
end KB

namespace KB
open PySem L2 HT LamX NdefX

theorem big {n : Nat} (h : n ≤ 10000000) : n < sizeLine := Nat.lt_of_le_of_lt h (by decide)
theorem max_eq (i j : Int) : (if j > i then j else i) = max i j := by
  rw [Int.max_def]
  by_cases c : j > i
  · rw [if_pos c, if_pos (by omega)]
  · rw [if_neg c]
    by_cases e : i ≤ j
    · rw [if_pos e]
      omega
    · rw [if_neg e]
section
variable {CH CR : Addr} {ne : CH ≠ CR} {TT : List (Addr × Str)} {H0 H H' : Hp} {es : List TEr} {p : Addr} {c c' : CT} {a a' : AdT} {pv wv hv pv' wv' hv' : V}
theorem RunB.sxs (R : RunB CR TT H0 H es p c a pv wv hv) (s : Sx H H') (t : Tabs TT H') : RunB CR TT H0 H' es p c a pv wv hv :=
  ⟨R.n0, R.nt, R.sx.trans (ix_sx s), t, s.at_ R.ob (fun _ z => nomatch z), R.er.ix (CR := CR) (ix_sx s), s.l R.tr, R.te.imp fun _ _ z => z.tk s.tk, R.ev.tk s.tk⟩
theorem RunB.same (R : RunB CR TT H0 H es p c a pv wv hv) (s : Same H H') : RunB CR TT H0 H' es p c a pv wv hv := R.sxs (sx_same s) (tabs_new R.tt s)
/-- something more is told -/
theorem RunB.tell (R : RunB CR TT H0 H es p c a pv wv hv) {e : List Ev} {v : List V} (h : All2 (EvV H) e v) :
    RunB CR TT H0 (upd H a.tl (.lst (a.tv ++ v))) es p { c with trail := c.trail ++ e } { a with tv := a.tv ++ v } pv wv hv := by
  have tk : TK H (upd H a.tl (.lst (a.tv ++ v))) := tk_put R.tr
  obtain ⟨kvs, k1, k2⟩ := R.er
  refine ⟨R.n0, R.nt, ix_mut R.sx R.nt _, tabs_mut R.tt R.tr _, by rw [upd_ne (ne_of R.ob R.tr (fun z => nomatch z))]; exact R.ob, ⟨kvs, by rw [upd_ne (ne_of k1 R.tr (fun z => nomatch z))]; exact k1, fun e he => ?_⟩, upd_same, (R.te.imp fun _ _ z => z.tk tk).app (h.imp fun _ _ z => z.tk tk), R.ev.tk tk⟩
  obtain ⟨qa, r, b, c1, c2, c3, c4⟩ := k2 e he
  exact ⟨qa, r, b, c1, tk _ _ c2, tk _ _ c3, PAt.tk tk c4⟩
theorem PartAt.ix (s : Ix CR H H') (h : PartAt ne H c pv wv hv) : PartAt ne H' c pv wv hv :=
  let ⟨pa, wb, hb, n, a1, a2, a3, a4, a5, a6, a7⟩ := h; ⟨pa, wb, hb, n, a1, a2, a3, PAt.tk s.tk a4, a5.ix s, a6.ix s, a7⟩
end
section
variable {P : Program} {w : World} {K : PySem.W.Frag} {mg : Str → Option Value} {base : Heap} {CH CR : Addr}
/-! ### ask -/
end
end KB

namespace KB
open PySem PySem.Spec PyProof.Rows L2 HT LamX NdefX

/-! ### what a give does -/
def giveT (c : CT) (i : Nat) (z : Int) : CT :=
  match i with
  | 0 => { c with fin := .done z }
  | k + 1 => match c.tab[k]? with
    | none => c
    | some r => { c with part := r.T, env := setE r.env r.x z, hs := r.hs, lim := r.wt - pcnt r.T }
theorem step_give {es : List TEr} {c : CT} {j : Str} {t : Tm} {i : Nat} (h : c.part = .give j t) (hi : c.hs j = some i) : stepT es c = giveT c i (evS c.env t) := by
  obtain ⟨m, a, tr, f, d, md, pt, env, hs, tab, lim⟩ := c
  have h : pt = .give j t := h
  subst h
  have e : hAt hs j = i := by
    unfold hAt
    rw [show hs j = some i from hi]
    rfl
  unfold stepT
  show (match hAt hs j with | 0 => _ | k + 1 => _) = _
  rw [e]
  cases i with
  | zero => rfl
  | succ k => rfl
theorem step_ask {es : List TEr} {c : CT} {f j : Str} {ts : List Tm} {i : Nat} (h : c.part = .ask f ts j) (hi : c.hs j = some i) : stepT es c = askT es c f (ts.map (evS c.env)) i := by
  obtain ⟨m, a, tr, fi, d, md, pt, env, hs, tab, lim⟩ := c
  have h : pt = .ask f ts j := h
  subst h
  have e : hAt hs j = i := by
    unfold hAt
    rw [show hs j = some i from hi]
    rfl
  unfold stepT
  show askT es _ f _ (hAt hs j) = _
  rw [e]
section
variable {P : Program} {w : World} {K : PySem.W.Frag} {mg : Str → Option Value} {base : Heap} {CH CR : Addr}
/-! ### give -/
end
end KB

namespace KB
open PySem L2 HT LamX NdefX

theorem RunB.passed {CR : Addr} {TT : List (Addr × Str)} {H0 H H' : Hp} {es : List TEr} {p : Addr} {c c' : CT} {a : AdT} {pv wv hv : V} (R : RunB CR TT H0 H es p c a pv wv hv) (s : Ix CR H H') (t : Tabs TT H') (ob : H' p = some (.ins CR a.dx (fsT (tvOf a c' pv wv hv)))) (e : c'.trail = c.trail) (ef : c'.fin = c.fin) :
    RunB CR TT H0 H' es p c' a pv wv hv := ⟨R.n0, R.nt, R.sx.trans s, t, ob, R.er.ix s, s.l R.tr, by rw [e]; exact R.te.imp fun _ _ z => z.tk s.tk, by rw [ef]; exact R.ev.tk s.tk⟩
section
variable {P : Program} {w : World} {K : PySem.W.Frag} {mg : Str → Option Value} {base : Heap} {CH CR : Addr}
/-! ### pass_part -/
end
end KB

namespace KB
open PySem L2 HT LamX NdefX

def ct0 (m : Nat) : CT := ⟨m, 0, [], .no, 0, 0, .give "home" noT, fun _ => none, fun _ => none, [], 0⟩
/-- how a run begins -/
theorem startT {es : List TEr} {hd : Str → Option Nat} (E : TEsOk es hd) {f : Str} {ns : List Int} {m : Nat} (hf : hd f = some ns.length) (hm : m ≤ 3000) :
    (WfT es hd (askT es (ct0 m) f ns 0) ∨ (askT es (ct0 m) f ns 0).fin ≠ .no) ∧ szT (askT es (ct0 m) f ns 0) ≤ 9000000 := by
  obtain ⟨e, he1, he2, he3, he4⟩ := E.found hf
  have ge := E.er e he2
  by_cases h0 : m = 0
  · have eA : askT es (ct0 m) f ns 0 = { ct0 m with fin := .long } := by
      unfold askT
      rw [if_pos (show (ct0 m).asked = (ct0 m).most from h0.symm)]
    rw [eA]
    refine ⟨.inr (fun z => by cases z), ?_⟩
    unfold szT muT muB
    show 0 + ((m - 0) * 1000 + (1 + 0) + 0) ≤ _
    omega
  · have eA : askT es (ct0 m) f ns 0 = { ct0 m with asked := 1, trail := [.ask f ns], deepest := max 0 0, part := e.2.2, env := envOf e.2.1 ns, hs := fun y => if y = "home" then some 0 else none } := by
      unfold askT
      rw [if_neg (show ¬ (ct0 m).asked = (ct0 m).most from fun z => h0 z.symm), he1]
      rfl
    rw [eA]
    refine ⟨.inl ⟨rfl, by show 1 ≤ m; omega, ⟨e.2.1, ["home"], ge.ok, fun x hx => envOf_some he4 hx, fun y hy => ⟨0, if_pos (List.mem_singleton.mp hy)⟩, fun y i hy => ?_, List.mem_cons_self⟩, fun k r hk => ?_⟩, ?_⟩
    · have hy : (if y = "home" then some 0 else none) = some i := hy
      by_cases q : y = "home"
      · rw [if_pos q] at hy
        cases hy
        exact ⟨Nat.le_refl _, Nat.le_refl _⟩
      · rw [if_neg q] at hy
        cases hy
    · have hk : ([] : List HR)[k]? = some r := hk
      cases hk
    · have := ge.cn
      unfold szT muT muB
      show 1 + ((m - 1) * 1000 + (pcnt e.2.2 + 0) + 1) ≤ _
      omega
section
variable {P : Program} {w : World} {K : PySem.W.Frag} {mg : Str → Option Value} {base : Heap} {CH CR CN CM : Addr}
/-! ### go -/
end
end KB

namespace KB
open PySem L2 HT LamX NdefX

theorem nd_ix {ls : List Str} (h : ls.Nodup) : ∀ {i j : Nat} {x : Str}, ls[i]? = some x → ls[j]? = some x → i = j := by
  induction ls with
  | nil => intro i j x hi; cases hi
  | cons y r ih =>
    rw [List.nodup_cons] at h
    intro i j x hi hj
    cases i with
    | zero =>
      cases j with
      | zero => rfl
      | succ j =>
        have e : y = x := Option.some.inj hi
        exact absurd (mem_of_get (show r[j]? = some y by rw [e]; exact hj)) h.1
    | succ i =>
      cases j with
      | zero =>
        have e : y = x := Option.some.inj hj
        exact absurd (mem_of_get (show r[i]? = some y by rw [e]; exact hi)) h.1
      | succ j => rw [ih h.2 (show r[i]? = some x from hi) (show r[j]? = some x from hj)]
section
variable {P : Program} {w : World} {K : PySem.W.Frag} {mg : Str → Option Value} {base : Heap} {CH CR CN CM : Addr}
/-! ### TurnedRunning(turned, most) -/
end
end KB

namespace KB
open PySem L2 HT LamX NdefX

/-- the end of a run -/
def RunEnd (es : List TEr) (m : Nat) (f : Str) (ns : List Int) (c : CT) : Prop := RchT es (askT es (ct0 m) f ns 0) c ∧ c.fin ≠ .no
section
variable {P : Program} {w : World} {K : PySem.W.Frag} {mg : Str → Option Value} {base : Heap} {CH CR CN CM : Addr}
/-! ### run_turned -/
end
end KB

namespace KB
open PySem L2 HT LamX NdefX

/-! ### the law's hand-ons -/
def FrA (A : List Addr) (H H' : Hp) : Prop := ∀ b o, b ∉ A → H b = some o → H' b = some o
theorem FrA.refl (A : List Addr) (H : Hp) : FrA A H H := fun _ _ _ h => h
theorem FrA.trans {A : List Addr} {H H1 H2 : Hp} (a : FrA A H H1) (b : FrA A H1 H2) : FrA A H H2 := fun x o n h => b x o n (a x o n h)
theorem fr_same {A : List Addr} {H H' : Hp} (s : Same H H') : FrA A H H' := fun b o _ h => s b o h
theorem fr_upd {A : List Addr} {H : Hp} {a : Addr} (h : a ∈ A) (o : HO) : FrA A H (upd H a o) := fun b u n e => by
  rw [upd_ne (fun z => n (by rw [z]; exact h))]
  exact e
inductive LHon (A : List Addr) (H : Hp) (tab : List HR) : Nat → V → Prop
  | fin (q : Addr) : H q = some (.tup [.int 0]) → LHon A H tab 0 (.ref q)
  | mk (k : Nat) (r : HR) (q tb nb hb : Addr) (n : Nat) (kvn kvs : List (Key × V)) (vf : Str → V) : tab[k]? = some r → H q = some (.tup [.int r.h, .str r.x, .ref tb, .ref nb, .ref hb]) → PAt H r.T tb → nb ∉ A → hb ∉ A → H nb = some (.dK kvn) → kvn.length ≤ n → (∀ x : Str, valV kvn (Sum.inr x) = (r.env x).map V.int) →
      H hb = some (.dK kvs) → kvs.length ≤ n → n + 1 + pcnt r.T ≤ 1000 → (∀ j i, r.hs j = some i → valV kvs (Sum.inr j) = some (vf j)) → (∀ j i, r.hs j = some i → LHon A H tab i (vf j)) → LHon A H tab (k + 1) (.ref q)
theorem LHon.keep {A : List Addr} {H H' : Hp} {tab tab' : List HR} (ht : ∀ (k : Nat) (r : HR), tab[k]? = some r → tab'[k]? = some r) (f : FrA A H H') (tk : TK H H') : ∀ {i : Nat} {v : V}, LHon A H tab i v → LHon A H' tab' i v := by
  intro i v h
  induction h with
  | fin q h => exact .fin q (tk _ _ h)
  | mk k r q tb nb hb n kvn kvs vf h1 h2 h3 h4 h5 h6 h7 h8 h9 h10 h11 h12 h13 ih =>
    exact .mk k r q tb nb hb n kvn kvs vf (ht _ _ h1) (tk _ _ h2) (PAt.tk tk h3) h4 h5 (f _ _ h4 h6) h7 h8 (f _ _ h5 h9) h10 h11 h12 ih
theorem LHon.fresh {A A' : List Addr} {H : Hp} {tab : List HR} (hA : ∀ a ∈ A', a ∈ A ∨ H a = none) : ∀ {i : Nat} {v : V}, LHon A H tab i v → LHon A' H tab i v := by
  intro i v h
  induction h with
  | fin q h => exact .fin q h
  | mk k r q tb nb hb n kvn kvs vf h1 h2 h3 h4 h5 h6 h7 h8 h9 h10 h11 h12 h13 ih =>
    refine .mk k r q tb nb hb n kvn kvs vf h1 h2 h3 (fun z => ?_) (fun z => ?_) h6 h7 h8 h9 h10 h11 h12 ih
    · rcases hA nb z with y | y
      · exact h4 y
      · rw [h6] at y
        cases y
    · rcases hA hb z with y | y
      · exact h5 y
      · rw [h9] at y
        cases y
theorem lhon_h {A : List Addr} {H : Hp} {tab : List HR} {i : Nat} {v : V} (h : LHon A H tab i v) : ∃ q r, v = .ref q ∧ H q = some (.tup (.int (hiAt tab i) :: r)) ∧ (if i = 0 then r = [] else r.length = 4) := by
  cases h with
  | fin q h => exact ⟨q, [], rfl, h, rfl⟩
  | mk k r q tb nb hb n kvn kvs vf h1 h2 =>
    refine ⟨q, [.str r.x, .ref tb, .ref nb, .ref hb], rfl, ?_, rfl⟩
    have e : hiAt tab (k + 1) = r.h := by
      show (tab[k]?.map (·.h)).getD 0 = r.h
      rw [h1]
      rfl
    rw [e]
    exact h2
/-! ### now, and what is around -/
def nowK_9 (tl : Addr) (dp md mn : Int) : List (Key × V) := [(Sum.inr "trail", .ref tl), (Sum.inr "deepest", .int dp), (Sum.inr "made", .int md), (Sum.inr "many", .int mn)]
structure NowL (H : Hp) (nd tl : Addr) (c : CT) (tv : List V) : Prop where
  n : H nd = some (.dK (nowK_9 tl c.deepest c.made c.asked))
  t : H tl = some (.lst tv)
  te : All2 (EvV H) c.trail tv
structure AroundL (A : List Addr) (H : Hp) (c : CT) (pa nm hb : Addr) (n : Nat) : Prop where
  p : PAt H c.part pa
  e : EnvN H c.env n nm
  h : ∃ kvs : List (Key × V), H hb = some (.dK kvs) ∧ kvs.length ≤ n ∧ ∀ (j : Str) (i : Nat), c.hs j = some i → ∃ v, LHon A H c.tab i v ∧ valV kvs (Sum.inr j) = some v
  n : n + pcnt c.part ≤ 1000
structure Apart (nd tl nm hb : Addr) : Prop where
  a : nd ≠ tl
  b : nd ≠ nm
  c : nd ≠ hb
  d : tl ≠ nm
  e : tl ≠ hb
  f : nm ≠ hb
theorem NowL.same {H H' : Hp} {nd tl : Addr} {c : CT} {tv : List V} (s : Same H H') (N : NowL H nd tl c tv) : NowL H' nd tl c tv := ⟨s _ _ N.n, s _ _ N.t, N.te.imp fun _ _ z => z.tk (tk_same s)⟩
theorem AroundL.keep {A : List Addr} {H H' : Hp} {c : CT} {pa nm hb : Addr} {n : Nat} (R : AroundL A H c pa nm hb n) (f : FrA A H H') (tk : TK H H') (hn : ∀ kvs, H nm = some (.dK kvs) → H' nm = some (.dK kvs)) (hh : ∀ kvs, H hb = some (.dK kvs) → H' hb = some (.dK kvs)) : AroundL A H' c pa nm hb n :=
  ⟨PAt.tk tk R.p, let ⟨kvs, a, b⟩ := R.e; ⟨kvs, hn _ a, b⟩, let ⟨kvs, a, b, d⟩ := R.h; ⟨kvs, hh _ a, b, fun j i e => let ⟨v, x, y⟩ := d j i e; ⟨v, x.keep (fun _ _ z => z) f tk, y⟩⟩, R.n⟩
theorem AroundL.same {A : List Addr} {H H' : Hp} {c : CT} {pa nm hb : Addr} {n : Nat} (s : Same H H') (R : AroundL A H c pa nm hb n) : AroundL A H' c pa nm hb n := R.keep (fr_same s) (tk_same s) (fun _ h => s _ _ h) fun _ h => s _ _ h
theorem tk_putD {H : Hp} {a : Addr} {kvs : List (Key × V)} {o : HO} (h : H a = some (.dK kvs)) : TK H (upd H a o) := fun b xs hb => by
  rw [upd_ne (ne_of hb h (fun z => by cases z))]
  exact hb
/-- what comes next -/
inductive Act
  | ask (f : Str) (ns : List Int) (i : Nat)
  | give (z : Int) (i : Nat)
def ActOk (hd : Str → Option Nat) (tab : List HR) : Act → Prop
  | .ask f ns i => hd f = some ns.length ∧ i ≤ tab.length
  | .give _ i => i ≤ tab.length
def actT (es : List TEr) (c : CT) : Act → CT
  | .ask f ns i => askT es c f ns i
  | .give z i => giveT c i z
def ActAt (A : List Addr) (H : Hp) (tab : List HR) (q : Addr) : Act → Prop
  | .ask f ns i => ∃ nb v, H q = some (.tup [.str "ask", .str f, .ref nb, v]) ∧ H nb = some (.tup (ns.map V.int)) ∧ LHon A H tab i v
  | .give z i => ∃ v, H q = some (.tup [.str "give", .int z, v]) ∧ LHon A H tab i v
section
variable {P : Program} {w : World} {K : PySem.W.Frag} {mg : Str → Option Value} {base : Heap}
/-! ### _law_along -/
def spAlong : Sp := fun vs H Q _ => ∃ (es : List TEr) (hd : Str → Option Nat) (c : CT) (nd tl pa nm hb : Addr) (tv : List V) (n : Nat), vs = [.ref nd, .ref pa, .ref nm, .ref hb] ∧ Apart nd tl nm hb ∧ NowL H nd tl c tv ∧ AroundL [nd, tl, nm, hb] H c pa nm hb n ∧ c.fin = .no ∧ WfT es hd c ∧ TEsOk es hd ∧ szT c ≤ 9000000 ∧
  ∀ H' q c' tv' act, RchT es c c' → c'.fin = .no → WfT es hd c' → stepT es c' = actT es c' act → ActOk hd c'.tab act → NowL H' nd tl c' tv' → ActAt [nd, tl] H' c'.tab q act → FrA [nd, tl, nm, hb] H H' → TK H H' → Q (.ref q) H'
abbrev s_law_along : Stmt := top 32
theorem scLalong : FnScope ["now", "part", "names", "hands", "one"] ["now", "part", "names", "hands"] (defScope s_law_along) := ⟨rfl, rfl, rfl, by decide +kernel, rfl, by decide +kernel, by decide +kernel⟩
def AlongInv (es : List TEr) (hd : Str → Option Nat) (c0 : CT) (nd tl nm hb : Addr) (H0 : Hp) (m : Nat) (σ : St) (H : Hp) : Prop :=
  ∃ c pa tv n, σ = [some (.ref nd), some (.ref pa), some (.ref nm), some (.ref hb), none] ∧ m = muT c ∧ RchT es c0 c ∧ c.fin = .no ∧ WfT es hd c ∧ NowL H nd tl c tv ∧ AroundL [nd, tl, nm, hb] H c pa nm hb n ∧ FrA [nd, tl, nm, hb] H0 H ∧ TK H0 H
theorem ok_along (T : Txt K mg) {f f1 : Addr} {fd d1 : FuncData} (F : Fun K "_law_along" "_law_along" s_law_along f fd) (G_law_value : FnOk P w K mg base CX0 64 f1 d1 ["term", "names"] (spValue 64)) (R_law_value : Ref K mg "_law_value" f1 d1 ["term", "names"]) : FnOk P w K mg base CX0 65 f fd ["now", "part", "names", "hands"] spAlong := by
  refine F.ok scLalong (fun vs H Q E h => ?_) (fun cdv A outer s H vs Q E hr h => ?_)
  · obtain ⟨es, hd, c, nd, tl, pa, nm, hb, tv, n, rfl, _⟩ := h
    rfl
  obtain ⟨es, hd, c0, nd, tl, pa, nm, hb, tv, n, rfl, hap, N, R, hno, wf0, E0, hsz, q⟩ := h
  refine ⟨_, (pss_cons (ps_while PassesOwn.never (pt_cmpR op_notIn_seq (pe_ix ix_tup (pv 1) pe_int (fun _ _ => rfl)) (pe_tup (pa_cons pe_str (pa_cons pe_str pa_nil))) rfl) (pss_one (ps_if (pt_cmpR op_eq (pe_ix ix_tup (pv 1) pe_int (fun _ _ => rfl)) pe_str (nomark _)) (pss_cons (ps_dput (hu_of hr) (pv 0) pe_str (pe_op op_add (pe_dget (hu_of hr) (pv 0) pe_str (fun _ _ => rfl)) pe_int) rfl)
    (pss_cons (ps_dput (hu_of hr) (pv 3) (pe_ix ix_tup (pv 1) pe_int (fun _ _ => rfl)) (pe_tup (pa_cons (pe_op op_add (pe_ix ix_tup (pe_dget (hu_of hr) (pv 3) pe_str (fun _ _ => rfl)) pe_int (fun _ _ => rfl)) pe_int) (pa_cons (pe_ix ix_tup (pv 1) pe_int (fun _ _ => rfl)) (pa_cons (pe_ix ix_tup (pv 1) pe_int (fun _ _ => rfl)) (pa_cons (pe_callTy call_dictD (by rfl) T.m_dict (by decide +kernel) (pa_cons (pv 2) pa_nil)) (pa_cons (pe_callTy call_dictD (by rfl) T.m_dict (by decide +kernel) (pa_cons (pv 3) pa_nil)) pa_nil)))))) rfl)
    (pss_one (ps_set (i := 1) scLalong.nd rfl (Or.inl rfl) (pe_ix ix_tup (pv 1) pe_int (fun _ _ => rfl)))))) (pss_one (ps_if (pt_cmpR op_eq (pe_ix ix_tup (pv 1) pe_int (fun _ _ => rfl)) pe_str (nomark _)) (pss_one (ps_set (i := 1) scLalong.nd rfl (Or.inl rfl) (pe_ix ix_tup (pv 1) (pe_op op_add pe_int (pe_callTy call_int1 (by rfl) T.m_int (by decide +kernel) (pa_cons (pe_cmpR op_eq (pe_call G_law_value (hr.mono (by omega)) rfl R_law_value.m R_law_value.k R_law_value.b .nil pass0 (pa_cons (pe_ix ix_tup (pv 1) pe_int (fun _ _ => rfl)) (pa_cons (pv 2) pa_nil))) pe_int (nomark _)) pa_nil))) (fun _ _ => rfl)))) (pss_cons (ps_dput (hu_of hr) (pv 2) (pe_ix ix_tup (pv 1) pe_int (fun _ _ => rfl)) (pe_call G_law_value (hr.mono (by omega)) rfl R_law_value.m R_law_value.k R_law_value.b .nil pass0 (pa_cons (pe_ix ix_tup (pv 1) pe_int (fun _ _ => rfl)) (pa_cons (pv 2) pa_nil))) rfl)
    (pss_cons (ps_if (pt_cmpR op_eq (pe_ix ix_tup (pv 1) pe_int (fun _ _ => rfl)) pe_str (nomark _)) (pss_one (ps_expr (pe_bm PySem.F.plainAttrs_list PySem.F.slot_list_append PySem.F.type_list_append mt_append (pe_dget (hu_of hr) (pv 0) pe_str (fun _ _ => rfl)) (pa_cons (pe_tup (pa_cons pe_str (pa_cons (pe_dget (hu_of hr) (pv 2) (pe_ix ix_tup (pv 1) pe_int (fun _ _ => rfl)) (fun _ _ => rfl)) pa_nil))) pa_nil)))) pss_nil)
    (pss_one (ps_set (i := 1) scLalong.nd rfl (Or.inl rfl) (pe_ix ix_tup (pv 1) pe_int (fun _ _ => rfl)))))))))))
    (pss_cons (ps_if (pt_cmpR op_eq (pe_ix ix_tup (pv 1) pe_int (fun _ _ => rfl)) pe_str (nomark _)) (pss_one (ps_ret (pe_tup (pa_cons pe_str (pa_cons (pe_call G_law_value (hr.mono (by omega)) rfl R_law_value.m R_law_value.k R_law_value.b .nil pass0 (pa_cons (pe_ix ix_tup (pv 1) pe_int (fun _ _ => rfl)) (pa_cons (pv 2) pa_nil))) (pa_cons (pe_dget (hu_of hr) (pv 3) (pe_ix ix_tup (pv 1) pe_int (fun _ _ => rfl)) (fun _ _ => rfl)) pa_nil)))))) pss_nil)
    (pss_one (ps_ret (pe_tup (pa_cons pe_str (pa_cons (pe_ix ix_tup (pv 1) pe_int (fun _ _ => rfl)) (pa_cons (pe_callTy call_tuple_of (by rfl) T.m_tuple (by decide +kernel) (pa_cons (pe_lc (own := [("one", 4)]) (g := gName 4) (by rfl) scLalong.nd (pi_tup (pe_ix ix_tup (pv 1) pe_int (fun _ _ => rfl))) (blkOk_by (own := [("one", 4)]) (N := ["now", "part", "names", "hands", "one"]) (sc := defScope s_law_along) (by decide +kernel)) (fun _ _ _ _ _ => (pg_name (i := 4) scLalong.nd rfl (Or.inl rfl))) (fun _ _ _ _ _ => pts_nil) (fun _ _ _ _ _ => (pe_call G_law_value (hr.mono (by omega)) rfl R_law_value.m R_law_value.k R_law_value.b .nil pass0 (pa_cons (pv 4) (pa_cons (pv 2) pa_nil))))) pa_nil)) (pa_cons (pe_dget (hu_of hr) (pv 3) (pe_ix ix_tup (pv 1) pe_int (fun _ _ => rfl)) (fun _ _ => rfl)) pa_nil))))))))), ?_⟩
  refine ⟨AlongInv es hd c0 nd tl nm hb H, ⟨_, c0, pa, tv, n, rfl, rfl, .refl c0, hno, wf0, N, R, FrA.refl _ _, fun _ _ z => z⟩, ?_⟩
  clear N R
  rintro m σ H1 ⟨c, pa, tv, n, rfl, rfl, hr0, hno1, wf, N, R, fr, tk⟩
  obtain ⟨xs, js, I⟩ := wf.at_
  obtain ⟨pt, hpt⟩ : ∃ pt, c.part = pt := ⟨_, rfl⟩
  have hok : rP hd pt xs js := hpt ▸ I.ok
  have hsz1 := hr0.sz E0 wf0
  have hA : PAt H1 pt pa := hpt ▸ R.p
  obtain ⟨r0, hhd⟩ := hA.head
  refine ⟨_, rfl, pa, _, _, _, rfl, rfl, SqT.of hhd, at0, sz (by show 2 ≤ 100000; decide), fun tp htp => ?_⟩
  have s2 := same_new htp (.tup [.str "give", .str "ask"])
  refine ⟨tp, _, rfl, .inr (SqT.of upd_same), rfl, rfl, _, rfl, ?_⟩
  have N := N.same s2
  have R := R.same s2
  have fr := fr.trans (fr_same s2)
  have tk := tk.trans (tk_same s2)
  have hA := PAt.tk (tk_same s2) hA
  have hhd := s2 _ _ hhd
  generalize upd H1 tp (.tup [.str "give", .str "ask"]) = H2 at N R fr tk hA hhd
  obtain ⟨kvn, w1, w2, w3⟩ := R.e
  obtain ⟨kvs, d1, d2, d3⟩ := R.h
  have hn : n + pcnt pt ≤ 1000 := hpt ▸ R.n
  have step : ∀ H' c2, stepT es c = c2 → c2.fin = .no → ∀ pa2 tv2 n2, NowL H' nd tl c2 tv2 → AroundL [nd, tl, nm, hb] H' c2 pa2 nm hb n2 → FrA [nd, tl, nm, hb] H2 H' → TK H2 H' → ∃ m', m' < muT c ∧ AlongInv es hd c0 nd tl nm hb H m' [some (.ref nd), some (.ref pa2), some (.ref nm), some (.ref hb), none] H' := fun H' c2 e f2 pa2 tv2 n2 N2 R2 fr2 tk2 => by
    obtain ⟨a, b⟩ := wf_stepT E0 wf
    rw [e] at a b
    exact ⟨_, b, c2, pa2, tv2, n2, rfl, rfl, by rw [← e]; exact .snoc hr0 hno1, f2, a.resolve_right fun z => z f2, N2, R2, fr.trans fr2, tk.trans tk2⟩
  have sub : ∀ {Hx : Hp} {i : Nat} {v : V}, LHon [nd, tl, nm, hb] Hx c.tab i v → LHon [nd, tl] Hx c.tab i v := fun h => h.fresh fun a ha => .inl (by
    rcases List.mem_cons.mp ha with z | z
    · rw [z]; exact List.mem_cons_self
    · rw [List.mem_singleton.mp z]; exact List.mem_cons_of_mem _ List.mem_cons_self)
  cases pt with
  | give j t =>
    obtain ⟨b, h1, h2⟩ := id hA
    obtain ⟨i, hi⟩ := I.h j hok.1
    obtain ⟨v, hv, hv2⟩ := d3 j i hi
    refine itF rfl ?_
    refine ⟨_, rfl, pa, _, _, _, rfl, rfl, SqT.of hhd, at0, rfl, _, rfl, itT rfl ?_⟩
    refine ⟨_, rfl, pa, _, _, _, rfl, rfl, SqT.of h1, at2, _, rfl, b, nm, t, c.env, kvn, rfl, h2, hok.2.si, hok.2.ht, hok.2.n _ I.e, w1, w3, fun H3 s3 => ?_⟩
    refine ⟨_, rfl, _, rfl, pa, _, _, _, rfl, rfl, SqT.of (s3 _ _ h1), at1, hb, v, rfl, get_of (s3 _ _ d1) hv2, sz (by show 3 ≤ 100000; decide), fun qa hqa => ?_⟩
    have s4 := s3.trans (same_new hqa (.tup [.str "give", .int (evS c.env t), v]))
    exact q _ qa c tv (.give (evS c.env t) i) hr0 hno1 wf (step_give hpt hi) (I.b j i hi).1 (N.same s4) ⟨v, upd_same, sub (hv.keep (fun _ _ z => z) (fr_same s4) (tk_same s4))⟩ (fr.trans (fr_same s4)) (tk.trans (tk_same s4))
  | ask f ts j =>
    obtain ⟨qq, vs, h1, h2, h3⟩ := id hA
    obtain ⟨i, hi⟩ := I.h j hok.1
    obtain ⟨v, hv, hv2⟩ := d3 j i hi
    have hl3 := h3.len
    have hl4 := hok.2.2.2.1
    refine itF rfl ?_
    refine ⟨_, rfl, pa, _, _, _, rfl, rfl, SqT.of hhd, at0, rfl, _, rfl, itF rfl ?_⟩
    refine ⟨_, rfl, pa, _, _, _, rfl, rfl, SqT.of h1, at1, ?_⟩
    refine ⟨_, rfl, pa, _, _, _, rfl, rfl, SqT.of h1, at2, qq, rfl, ⟨_, SqT.of h2⟩, fun D hD => lc_tup (K := K) (a := qq) (xs := vs) (fun k H' => Same H2 H' ∧ H' D = some (.lst (((ts.take k).map (evS c.env)).map V.int))) ⟨same_new hD _, upd_same⟩ ?_ ?_ ?_⟩
    · rintro k H' _ ⟨sB, _⟩
      exact SqT.of (sB _ _ h2)
    · rintro k x H3 hx ⟨s3, h3'⟩
      obtain ⟨u, hu, b, rfl, hb4⟩ := h3.get hx
      have hum := hok.2.2.2.2 u (mem_of_get hu)
      obtain ⟨hi', hi2⟩ := List.getElem?_eq_some_iff.mp hu
      refine ⟨rfl, ?_⟩
      dsimp only [tYes]
      refine iteT ⟨_, rfl, _, rfl, b, nm, u, c.env, kvn, rfl, hb4.mono s3, hum.si, hum.ht, hum.n _ I.e, s3 _ _ w1, w3, fun H4 s4 => ?_⟩
      have h5 := s4 _ _ h3'
      refine ⟨_, h5, Nat.lt_of_le_of_lt (m := 100) (by rw [List.length_map, List.length_map, List.length_take]; omega) (by decide), same_mut (s3.trans s4) hD, ?_⟩
      rw [upd_same, List.take_succ_eq_append_getElem hi', hi2, List.map_append, List.map_append]
      rfl
    · rintro H3 ⟨s3, h3'⟩
      rw [hl3, List.take_length] at h3'
      refine ⟨D, _, rfl, .inl ⟨SqL.of h3', fun nb hnb => ?_⟩⟩
      have s4 := s3.trans (same_new hnb (.tup ((ts.map (evS c.env)).map V.int)))
      have n4 : upd H3 nb (.tup ((ts.map (evS c.env)).map V.int)) nb = some (.tup ((ts.map (evS c.env)).map V.int)) := upd_same
      generalize upd H3 nb (.tup ((ts.map (evS c.env)).map V.int)) = H4 at s4 n4 ⊢
      refine ⟨_, rfl, _, rfl, pa, _, _, _, rfl, rfl, SqT.of (s4 _ _ h1), at3, hb, v, rfl, get_of (s4 _ _ d1) hv2, sz (by show 4 ≤ 100000; decide), fun qa hqa => ?_⟩
      have s5 := same_new hqa (.tup [.str "ask", .str f, .ref nb, v])
      have s6 := s4.trans s5
      exact q _ qa c tv (.ask f (ts.map (evS c.env)) i) hr0 hno1 wf (step_ask hpt hi) ⟨by rw [List.length_map]; exact hok.2.2.1, (I.b j i hi).1⟩ (N.same s6) ⟨nb, v, upd_same, s5 _ _ n4, sub (hv.keep (fun _ _ z => z) (fr_same s6) (tk_same s6))⟩ (fr.trans (fr_same s6)) (tk.trans (tk_same s6))
  | tell x t p =>
    obtain ⟨b, cc, h1, h2, h3⟩ := id hA
    have hok : isW x = true ∧ RTm xs t ∧ rP hd p (xs ++ [x]) js := hok
    have hpc : pcnt (Pt.tell x t p) = 1 + pcnt p := rfl
    refine itT rfl ⟨fun σ' H' => ∃ m', m' < muT c ∧ AlongInv es hd c0 nd tl nm hb H m' σ' H', fun _ _ z => z, ?_⟩
    refine ⟨_, rfl, pa, _, _, _, rfl, rfl, SqT.of hhd, at0, rfl, _, rfl, itF rfl ?_⟩
    refine ⟨_, rfl, pa, _, _, _, rfl, rfl, SqT.of hhd, at0, rfl, _, rfl, itF rfl ?_⟩
    have es1 : stepT es c = { c with trail := c.trail ++ [.tell (evS c.env t)], env := setE c.env x (evS c.env t), part := p } := by
      obtain ⟨m, a, tr, fi, dd, md, pt, env, hs, tab, lim⟩ := c
      have h : pt = .tell x t p := hpt
      subst h
      rfl
    refine ⟨_, rfl, pa, _, _, _, rfl, rfl, SqT.of h1, at2, _, rfl, b, nm, t, c.env, kvn, rfl, h2, hok.2.1.si, hok.2.1.ht, hok.2.1.n _ I.e, w1, w3, fun H3 s3 => ?_⟩
    have w13 := s3 _ _ w1
    refine ⟨_, rfl, _, rfl, pa, _, _, _, rfl, rfl, SqT.of (s3 _ _ h1), at1, nm, _, rfl, DPut.k (k := Sum.inr x) w13 (big (by omega)), ?_⟩
    have N3 := N.same s3
    have R3 := R.same s3
    have tk4 : TK H3 (upd H3 nm (.dK (putK kvn (Sum.inr x) (.int (evS c.env t))))) := tk_putD w13
    have fr4 : FrA [nd, tl, nm, hb] H3 (upd H3 nm (.dK (putK kvn (Sum.inr x) (.int (evS c.env t))))) := fr_upd (by simp) _
    have N4 : NowL (upd H3 nm (.dK (putK kvn (Sum.inr x) (.int (evS c.env t))))) nd tl c tv := ⟨by rw [upd_ne hap.b]; exact N3.n, by rw [upd_ne hap.d]; exact N3.t, N3.te.imp fun _ _ z => z.tk tk4⟩
    have R4 : AroundL [nd, tl, nm, hb] (upd H3 nm (.dK (putK kvn (Sum.inr x) (.int (evS c.env t))))) { c with env := setE c.env x (evS c.env t), part := p } cc nm hb (n + 1) :=
      ⟨PAt.tk tk4 (PAt.tk (tk_same s3) h3), ⟨_, upd_same, Nat.le_trans putK_len (by omega), env_put w3⟩, let ⟨kv, a1, a2, a3⟩ := R3.h; ⟨kv, by rw [upd_ne (Ne.symm hap.f)]; exact a1, by omega, fun j i e => let ⟨v, y1, y2⟩ := a3 j i e; ⟨v, y1.keep (fun _ _ z => z) fr4 tk4, y2⟩⟩, by show n + 1 + pcnt p ≤ 1000; omega⟩
    have w4 : upd H3 nm (.dK (putK kvn (Sum.inr x) (.int (evS c.env t)))) nm = some (.dK (putK kvn (Sum.inr x) (.int (evS c.env t)))) := upd_same
    have h14 := tk4 _ _ (s3 _ _ h1)
    have fr24 : FrA [nd, tl, nm, hb] H2 (upd H3 nm (.dK (putK kvn (Sum.inr x) (.int (evS c.env t))))) := (fr_same s3).trans fr4
    have tk24 : TK H2 (upd H3 nm (.dK (putK kvn (Sum.inr x) (.int (evS c.env t))))) := (tk_same s3).trans tk4
    generalize upd H3 nm (.dK (putK kvn (Sum.inr x) (.int (evS c.env t)))) = H4 at N4 R4 w4 h14 fr24 tk24 ⊢
    clear tk4 fr4 N3 R3 w13
    refine ⟨_, rfl, pa, _, _, _, rfl, rfl, SqT.of h14, at0, rfl, _, rfl, itT rfl ?_⟩
    refine ⟨_, rfl, nd, _, rfl, DGet.k (k := Sum.inr "trail") N4.n, .inl ⟨rfl, _, SqL.of N4.t⟩, _, rfl, _, rfl, pa, _, _, _, rfl, rfl, SqT.of h14, at1, nm, _, rfl, get_of w4 (by rw [valV_put, if_pos rfl]), sz (by show 2 ≤ 100000; decide), fun tq htq => ?_⟩
    have s5 := same_new htq (.tup [.str "tell", .int (evS c.env t)])
    have N5 := N4.same s5
    have R5 := R4.same s5
    have q5 : upd H4 tq (.tup [.str "tell", .int (evS c.env t)]) tq = some (.tup [.str "tell", .int (evS c.env t)]) := upd_same
    have h15 := s5 _ _ h14
    have fr25 := fr24.trans (fr_same s5)
    have tk25 := tk24.trans (tk_same s5)
    generalize upd H4 tq (.tup [.str "tell", .int (evS c.env t)]) = H5 at N5 R5 q5 h15 fr25 tk25 ⊢
    have hln := N5.te.len
    have hct : c.trail.length ≤ szT c := by unfold szT; omega
    refine ⟨tl, _, _, rfl, rfl, N5.t, big (by omega), ?_⟩
    have tk6 : TK H5 (upd H5 tl (.lst (tv ++ [.ref tq]))) := tk_put N5.t
    have fr6 : FrA [nd, tl, nm, hb] H5 (upd H5 tl (.lst (tv ++ [.ref tq]))) := fr_upd (by simp) _
    refine ⟨_, rfl, pa, _, _, _, rfl, rfl, SqT.of (tk6 _ _ h15), at3, ?_⟩
    refine step _ _ es1 hno1 cc (tv ++ [.ref tq]) (n + 1) ⟨by rw [upd_ne hap.a]; exact N5.n, upd_same, (N5.te.imp fun _ _ z => z.tk tk6).app ⟨⟨tq, rfl, tk6 _ _ q5⟩, trivial⟩⟩ ?_ (fr25.trans fr6) (tk25.trans tk6)
    have R6 := R5.keep fr6 tk6 (fun _ h => by rw [upd_ne (Ne.symm hap.d)]; exact h) fun _ h => by rw [upd_ne (Ne.symm hap.e)]; exact h
    exact ⟨R6.p, R6.e, R6.h, R6.n⟩
  | lett x t p =>
    obtain ⟨b, cc, h1, h2, h3⟩ := id hA
    have hok : isW x = true ∧ RTm xs t ∧ rP hd p (xs ++ [x]) js := hok
    have hpc : pcnt (Pt.lett x t p) = 1 + pcnt p := rfl
    refine itT rfl ⟨fun σ' H' => ∃ m', m' < muT c ∧ AlongInv es hd c0 nd tl nm hb H m' σ' H', fun _ _ z => z, ?_⟩
    refine ⟨_, rfl, pa, _, _, _, rfl, rfl, SqT.of hhd, at0, rfl, _, rfl, itF rfl ?_⟩
    refine ⟨_, rfl, pa, _, _, _, rfl, rfl, SqT.of hhd, at0, rfl, _, rfl, itF rfl ?_⟩
    have es1 : stepT es c = { c with env := setE c.env x (evS c.env t), part := p } := by
      obtain ⟨m, a, tr, fi, dd, md, pt, env, hs, tab, lim⟩ := c
      have h : pt = .lett x t p := hpt
      subst h
      rfl
    refine ⟨_, rfl, pa, _, _, _, rfl, rfl, SqT.of h1, at2, _, rfl, b, nm, t, c.env, kvn, rfl, h2, hok.2.1.si, hok.2.1.ht, hok.2.1.n _ I.e, w1, w3, fun H3 s3 => ?_⟩
    have w13 := s3 _ _ w1
    refine ⟨_, rfl, _, rfl, pa, _, _, _, rfl, rfl, SqT.of (s3 _ _ h1), at1, nm, _, rfl, DPut.k (k := Sum.inr x) w13 (big (by omega)), ?_⟩
    have N3 := N.same s3
    have R3 := R.same s3
    have tk4 : TK H3 (upd H3 nm (.dK (putK kvn (Sum.inr x) (.int (evS c.env t))))) := tk_putD w13
    have fr4 : FrA [nd, tl, nm, hb] H3 (upd H3 nm (.dK (putK kvn (Sum.inr x) (.int (evS c.env t))))) := fr_upd (by simp) _
    have N4 : NowL (upd H3 nm (.dK (putK kvn (Sum.inr x) (.int (evS c.env t))))) nd tl c tv := ⟨by rw [upd_ne hap.b]; exact N3.n, by rw [upd_ne hap.d]; exact N3.t, N3.te.imp fun _ _ z => z.tk tk4⟩
    have R4 : AroundL [nd, tl, nm, hb] (upd H3 nm (.dK (putK kvn (Sum.inr x) (.int (evS c.env t))))) { c with env := setE c.env x (evS c.env t), part := p } cc nm hb (n + 1) :=
      ⟨PAt.tk tk4 (PAt.tk (tk_same s3) h3), ⟨_, upd_same, Nat.le_trans putK_len (by omega), env_put w3⟩, let ⟨kv, a1, a2, a3⟩ := R3.h; ⟨kv, by rw [upd_ne (Ne.symm hap.f)]; exact a1, by omega, fun j i e => let ⟨v, y1, y2⟩ := a3 j i e; ⟨v, y1.keep (fun _ _ z => z) fr4 tk4, y2⟩⟩, by show n + 1 + pcnt p ≤ 1000; omega⟩
    have w4 : upd H3 nm (.dK (putK kvn (Sum.inr x) (.int (evS c.env t)))) nm = some (.dK (putK kvn (Sum.inr x) (.int (evS c.env t)))) := upd_same
    have h14 := tk4 _ _ (s3 _ _ h1)
    have fr24 : FrA [nd, tl, nm, hb] H2 (upd H3 nm (.dK (putK kvn (Sum.inr x) (.int (evS c.env t))))) := (fr_same s3).trans fr4
    have tk24 : TK H2 (upd H3 nm (.dK (putK kvn (Sum.inr x) (.int (evS c.env t))))) := (tk_same s3).trans tk4
    generalize upd H3 nm (.dK (putK kvn (Sum.inr x) (.int (evS c.env t)))) = H4 at N4 R4 w4 h14 fr24 tk24 ⊢
    clear tk4 fr4 N3 R3 w13
    refine ⟨_, rfl, pa, _, _, _, rfl, rfl, SqT.of h14, at0, rfl, _, rfl, itF rfl ?_⟩
    refine ⟨_, rfl, pa, _, _, _, rfl, rfl, SqT.of h14, at3, ?_⟩
    exact step _ _ es1 hno1 cc tv (n + 1) ⟨N4.n, N4.t, N4.te⟩ R4 fr24 tk24
  | iff t p p2 =>
    obtain ⟨b, cc, d, h1, h2, h3, h4⟩ := id hA
    have hok : RTm xs t ∧ rP hd p xs js ∧ rP hd p2 xs js := hok
    have hpc : pcnt (Pt.iff t p p2) = 1 + pcnt p + pcnt p2 := rfl
    refine itT rfl ⟨fun σ' H' => ∃ m', m' < muT c ∧ AlongInv es hd c0 nd tl nm hb H m' σ' H', fun _ _ z => z, ?_⟩
    refine ⟨_, rfl, pa, _, _, _, rfl, rfl, SqT.of hhd, at0, rfl, _, rfl, itF rfl ?_⟩
    refine ⟨_, rfl, pa, _, _, _, rfl, rfl, SqT.of hhd, at0, rfl, _, rfl, itT rfl ?_⟩
    refine ⟨_, rfl, _, rfl, pa, _, _, _, rfl, rfl, SqT.of h1, at1, _, rfl, b, nm, t, c.env, kvn, rfl, h2, hok.1.si, hok.1.ht, hok.1.n _ I.e, w1, w3, fun H3 s3 => ?_⟩
    by_cases hz : evS c.env t = 0
    · have es1 : stepT es c = { c with part := p2 } := by
        obtain ⟨m, a, tr, fi, dd, md, pt, env, hs, tab, lim⟩ := c
        have h : pt = .iff t p p2 := hpt
        subst h
        show CT.mk _ _ _ _ _ _ (if evS env t = 0 then p2 else p) _ _ _ _ = _
        rw [if_pos (show evS env t = 0 from hz)]
      refine ⟨rfl, .inr ⟨_, rfl, _, _, rfl, rfl, pa, _, 3, .ref d, rfl, ?_, SqT.of (s3 _ _ h1), at3, ?_⟩⟩
      · rw [hz]
        rfl
      exact step H3 _ es1 hno1 d tv n ⟨(N.same s3).n, (N.same s3).t, (N.same s3).te⟩ ⟨PAt.tk (tk_same s3) h4, (R.same s3).e, (R.same s3).h, by show n + pcnt p2 ≤ 1000; omega⟩ (fr_same s3) (tk_same s3)
    · have es1 : stepT es c = { c with part := p } := by
        obtain ⟨m, a, tr, fi, dd, md, pt, env, hs, tab, lim⟩ := c
        have h : pt = .iff t p p2 := hpt
        subst h
        show CT.mk _ _ _ _ _ _ (if evS env t = 0 then p2 else p) _ _ _ _ = _
        rw [if_neg (show ¬ evS env t = 0 from hz)]
      refine ⟨rfl, .inr ⟨_, rfl, _, _, rfl, rfl, pa, _, 2, .ref cc, rfl, ?_, SqT.of (s3 _ _ h1), at2, ?_⟩⟩
      · rw [decide_eq_false (fun z => hz (V.int.inj z))]
        rfl
      exact step H3 _ es1 hno1 cc tv n ⟨(N.same s3).n, (N.same s3).t, (N.same s3).te⟩ ⟨PAt.tk (tk_same s3) h3, (R.same s3).e, (R.same s3).h, by show n + pcnt p ≤ 1000; omega⟩ (fr_same s3) (tk_same s3)
  | post j x p p2 =>
    obtain ⟨cc, d, h1, h2, h3⟩ := id hA
    have hok : isW j = true ∧ isW x = true ∧ rP hd p (xs ++ [x]) js ∧ rP hd p2 xs (js ++ [j]) := hok
    have hpc : pcnt (Pt.post j x p p2) = 1 + pcnt p + pcnt p2 := rfl
    refine itT rfl ⟨fun σ' H' => ∃ m', m' < muT c ∧ AlongInv es hd c0 nd tl nm hb H m' σ' H', fun _ _ z => z, ?_⟩
    refine ⟨_, rfl, pa, _, _, _, rfl, rfl, SqT.of hhd, at0, rfl, _, rfl, itT rfl ?_⟩
    obtain ⟨i, hi⟩ := I.h _ I.m
    have hat : hAt c.hs "home" = i := by
      unfold hAt
      rw [hi]
      rfl
    have es1 : stepT es c = { c with made := c.made + 1, tab := c.tab ++ [⟨x, p, c.env, c.hs, hiAt c.tab i + 1, pcnt p + c.lim⟩], hs := setH c.hs j (c.tab.length + 1), part := p2, lim := pcnt p + c.lim } := by
      rw [← hat]
      obtain ⟨m, a, tr, fi, dd, md, pt, env, hs, tab, lim⟩ := c
      have h : pt = .post j x p p2 := hpt
      subst h
      rfl
    -- now["made"]
    refine ⟨_, rfl, nd, _, rfl, DGet.k (k := Sum.inr "made") N.n, _, _, rfl, rfl, _, rfl, nd, _, rfl, DPut.k (k := Sum.inr "made") N.n (big (by show 4 ≤ _; decide)), ?_⟩
    have tk3 : TK H2 (upd H2 nd (.dK (putK (nowK_9 tl c.deepest c.made c.asked) (Sum.inr "made") (.int (c.made + 1))))) := tk_putD N.n
    have fr3 : FrA [nd, tl, nm, hb] H2 (upd H2 nd (.dK (putK (nowK_9 tl c.deepest c.made c.asked) (Sum.inr "made") (.int (c.made + 1))))) := fr_upd (by simp) _
    have N3 : NowL (upd H2 nd (.dK (putK (nowK_9 tl c.deepest c.made c.asked) (Sum.inr "made") (.int (c.made + 1))))) nd tl { c with made := c.made + 1 } tv := ⟨by rw [upd_same]; rfl, by rw [upd_ne (Ne.symm hap.a)]; exact N.t, N.te.imp fun _ _ z => z.tk tk3⟩
    have R3 := R.keep fr3 tk3 (fun _ h => by rw [upd_ne (Ne.symm hap.b)]; exact h) fun _ h => by rw [upd_ne (Ne.symm hap.c)]; exact h
    generalize upd H2 nd (.dK (putK (nowK_9 tl c.deepest c.made c.asked) (Sum.inr "made") (.int (c.made + 1)))) = H3 at tk3 fr3 N3 R3 ⊢
    obtain ⟨kvn, w1, w2, w3⟩ := R3.e
    obtain ⟨kvs, d1, d2, d3⟩ := R3.h
    obtain ⟨v, hv, hv2⟩ := d3 _ i hi
    obtain ⟨hq, hr', rfl, hh, _⟩ := lhon_h hv
    have h13 := tk3 _ _ h1
    refine ⟨_, rfl, hb, _, rfl, get_of d1 hv2, hq, _, _, _, rfl, rfl, SqT.of hh, at0, _, _, rfl, rfl, ?_⟩
    refine ⟨_, rfl, pa, _, _, _, rfl, rfl, SqT.of h13, at2, _, rfl, pa, _, _, _, rfl, rfl, SqT.of h13, at3, ?_⟩
    refine ⟨_, rfl, nm, kvn, rfl, .inl w1, fun nb hnb => ?_⟩
    have s4 := same_new hnb (.dK kvn)
    refine ⟨_, rfl, hb, kvs, rfl, .inl (s4 _ _ d1), fun hb2 hhb2 => ?_⟩
    have s5 := same_new hhb2 (.dK kvs)
    refine ⟨sz (by show 5 ≤ 100000; decide), fun tq htq => ?_⟩
    have s6 := same_new htq (.tup [.int (hiAt c.tab i + 1), .str x, .ref cc, .ref nb, .ref hb2])
    have s36 := (s4.trans s5).trans s6
    have hq6 : upd (upd (upd H3 nb (.dK kvn)) hb2 (.dK kvs)) tq (.tup [.int (hiAt c.tab i + 1), .str x, .ref cc, .ref nb, .ref hb2]) tq = some (.tup [.int (hiAt c.tab i + 1), .str x, .ref cc, .ref nb, .ref hb2]) := upd_same
    have nb6 : upd (upd (upd H3 nb (.dK kvn)) hb2 (.dK kvs)) tq (.tup [.int (hiAt c.tab i + 1), .str x, .ref cc, .ref nb, .ref hb2]) nb = some (.dK kvn) := s6 _ _ (s5 _ _ upd_same)
    have hb6 : upd (upd (upd H3 nb (.dK kvn)) hb2 (.dK kvs)) tq (.tup [.int (hiAt c.tab i + 1), .str x, .ref cc, .ref nb, .ref hb2]) hb2 = some (.dK kvs) := s6 _ _ upd_same
    have nbA : nb ∉ [nd, tl, nm, hb] := fun z => by
      rcases List.mem_cons.mp z with z | z
      · rw [z, N3.n] at hnb; cases hnb
      rcases List.mem_cons.mp z with z | z
      · rw [z, N3.t] at hnb; cases hnb
      rcases List.mem_cons.mp z with z | z
      · rw [z, w1] at hnb; cases hnb
      · rw [List.mem_singleton.mp z, d1] at hnb; cases hnb
    have hbA : hb2 ∉ [nd, tl, nm, hb] := fun z => by
      have hhb3 := s4.free hhb2
      rcases List.mem_cons.mp z with z | z
      · rw [z, N3.n] at hhb3; cases hhb3
      rcases List.mem_cons.mp z with z | z
      · rw [z, N3.t] at hhb3; cases hhb3
      rcases List.mem_cons.mp z with z | z
      · rw [z, w1] at hhb3; cases hhb3
      · rw [List.mem_singleton.mp z, d1] at hhb3; cases hhb3
    have N6 := N3.same s36
    have R6 := R3.same s36
    have h16 := s36 _ _ h13
    have fr6 := fr3.trans (fr_same s36)
    have tk6 := tk3.trans (tk_same s36)
    have h26 := PAt.tk tk6 h2
    have h36 := PAt.tk tk6 h3
    have d16 := s36 _ _ d1
    have w16 := s36 _ _ w1
    have hv6 : ∀ i' v, LHon [nd, tl, nm, hb] H3 c.tab i' v → LHon [nd, tl, nm, hb] (upd (upd (upd H3 nb (.dK kvn)) hb2 (.dK kvs)) tq (.tup [.int (hiAt c.tab i + 1), .str x, .ref cc, .ref nb, .ref hb2])) c.tab i' v := fun i' v h => h.keep (fun _ _ z => z) (fr_same s36) (tk_same s36)
    generalize upd (upd (upd H3 nb (.dK kvn)) hb2 (.dK kvs)) tq (.tup [.int (hiAt c.tab i + 1), .str x, .ref cc, .ref nb, .ref hb2]) = H6 at s36 hq6 nb6 hb6 N6 R6 h16 fr6 tk6 h26 h36 d16 w16 hv6 ⊢
    refine ⟨_, rfl, _, rfl, pa, _, _, _, rfl, rfl, SqT.of h16, at1, hb, _, rfl, DPut.k (k := Sum.inr j) d16 (big (by omega)), ?_⟩
    have tk7 : TK H6 (upd H6 hb (.dK (putK kvs (Sum.inr j) (.ref tq)))) := tk_putD d16
    have fr7 : FrA [nd, tl, nm, hb] H6 (upd H6 hb (.dK (putK kvs (Sum.inr j) (.ref tq)))) := fr_upd (by simp) _
    refine ⟨_, rfl, pa, _, _, _, rfl, rfl, SqT.of (tk7 _ _ h16), at4, ?_⟩
    refine step _ _ es1 hno1 d tv (n + 1) ⟨by rw [upd_ne hap.c]; exact N6.n, by rw [upd_ne hap.e]; exact N6.t, N6.te.imp fun _ _ z => z.tk tk7⟩ ⟨PAt.tk tk7 h36, ⟨kvn, by rw [upd_ne hap.f]; exact w16, by omega, w3⟩, ⟨_, upd_same, Nat.le_trans putK_len (by omega), fun y k hy => ?_⟩, by show n + 1 + pcnt p2 ≤ 1000; omega⟩ (fr6.trans fr7) (tk6.trans tk7)
    have hy : (if y = j then some (c.tab.length + 1) else c.hs y) = some k := hy
    have old : ∀ i' v, LHon [nd, tl, nm, hb] H3 c.tab i' v → LHon [nd, tl, nm, hb] (upd H6 hb (.dK (putK kvs (Sum.inr j) (.ref tq)))) (c.tab ++ [⟨x, p, c.env, c.hs, hiAt c.tab i + 1, pcnt p + c.lim⟩]) i' v := fun i' v h => (hv6 i' v h).keep tab_app fr7 tk7
    rw [valV_put]
    by_cases ey : y = j
    · rw [if_pos ey] at hy
      cases hy
      rw [if_pos (by rw [ey])]
      refine ⟨_, ?_, rfl⟩
      have hf : ∀ y k, c.hs y = some k → ∃ u, valV kvs (Sum.inr y) = some u ∧ LHon [nd, tl, nm, hb] H3 c.tab k u := fun y k e => by
        obtain ⟨u, z1, z2⟩ := d3 y k e
        exact ⟨u, z2, z1⟩
      refine .mk c.tab.length _ tq cc nb hb2 n kvn kvs (fun y => (valV kvs (Sum.inr y)).getD .non) (by rw [List.getElem?_append_right (Nat.le_refl _), Nat.sub_self]; rfl) (tk7 _ _ hq6) (PAt.tk tk7 h26) nbA hbA (fr7 _ _ nbA nb6) w2 w3 (fr7 _ _ hbA hb6) d2 (by show n + 1 + pcnt p ≤ 1000; omega) (fun y k e => ?_) fun y k e => ?_
      · obtain ⟨u, z1, z2⟩ := hf y k e
        show _ = some ((valV kvs (Sum.inr y)).getD .non)
        rw [z1]
        rfl
      · obtain ⟨u, z1, z2⟩ := hf y k e
        show LHon _ _ _ k ((valV kvs (Sum.inr y)).getD .non)
        rw [z1]
        exact old k u z2
    · rw [if_neg ey] at hy
      rw [if_neg (fun z => ey (Sum.inr.inj z))]
      obtain ⟨u, z1, z2⟩ := d3 y k hy
      exact ⟨u, old k u z1, z2⟩
end
end KB

namespace KB
open PySem L2 HT LamX NdefX

theorem envOf_snoc {w : Str} {z : Int} {x : Str} : ∀ {xs : List Str} {ms : List Int}, xs.length = ms.length → w ∉ xs → envOf (xs ++ [w]) (ms ++ [z]) x = if x = w then some z else envOf xs ms x
  | [], [], _, _ => by
    show (if x = w then some z else none) = _
    rfl
  | [], _ :: _, h, _ => by simp at h
  | _ :: _, [], h, _ => by simp at h
  | y :: xs, n :: ms, h, hw => by
    show (if x = y then some n else envOf (xs ++ [w]) (ms ++ [z]) x) = if x = w then some z else (if x = y then some n else envOf xs ms x)
    rw [envOf_snoc (by simpa using h) (fun e => hw (List.mem_cons_of_mem _ e))]
    by_cases c : x = w
    · rw [if_pos c, if_pos c]
      by_cases d : x = y
      · exact absurd (by rw [← c, d]; exact List.mem_cons_self) hw
      · rw [if_neg d]
    · rw [if_neg c, if_neg c]
theorem fr_new {A : List Addr} {H0 H H' : Hp} (s : Same H0 H) (f : FrA A H H') (hA : ∀ a ∈ A, H0 a = none) : Same H0 H' := fun b o hb => f b o (fun z => by rw [hA b z] at hb; cases hb) (s b o hb)
section
variable {P : Program} {w : World} {K : PySem.W.Frag} {mg : Str → Option Value} {base : Heap}
/-! ### _law_turned_run -/
def spLRunT : Sp := fun vs H Q _ => ∃ (bk nb : Addr) (es : List TEr) (us : List V) (hd : Str → Option Nat) (e : TEr) (ns : List Int) (m : Nat), vs = [.ref bk, .str e.1, .ref nb, .int m] ∧ TBkAt H es us bk ∧ (es.map (·.1)).Nodup ∧ es.length ≤ 6 ∧ TEsOk es hd ∧ e ∈ es ∧ e.2.1.length = ns.length ∧
  H nb = some (.tup (ns.map V.int)) ∧ ns.length ≤ 100 ∧ m ≤ 3000 ∧
  ∀ H' q tl tv ev c, Same H H' → H' q = some (.tup [.ref tl, ev, .int c.deepest, .int c.made]) → H' tl = some (.lst tv) → All2 (EvV H') c.trail tv → FeV H' c.fin ev → c.trail.length ≤ 9000000 → RunEnd es m e.1 ns c → Q (.ref q) H'
abbrev s_law_turned_run : Stmt := top 31
theorem scLturned_run : FnScope ["turned", "f", "numbers", "most", "errands", "name", "names", "part", "now", "goes", "words", "k", "hands", "height", "x"] ["turned", "f", "numbers", "most"] (defScope s_law_turned_run) := ⟨rfl, rfl, rfl, by decide +kernel, rfl, by decide +kernel, by decide +kernel⟩
/-- what is known where the law's loop begins anew -/
structure Head (es : List TEr) (hd : Str → Option Nat) (m : Nat) (f : Str) (ns : List Int) (c : CT) (act : Act) : Prop where
  no : c.fin = .no
  mo : c.most = m
  rc : RchT es (askT es (ct0 m) f ns 0) (actT es c act)
  wf : WfT es hd (actT es c act) ∨ (actT es c act).fin ≠ .no
  mu : muT (actT es c act) < muT c
  sz : szT (actT es c act) ≤ 9000000
  tr : c.trail.length ≤ 9000000
  ac : ActOk hd c.tab act
theorem head_next {es : List TEr} {hd : Str → Option Nat} {m : Nat} {f : Str} {ns : List Int} {c c' : CT} {act act' : Act} (E : TEsOk es hd) (h : Head es hd m f ns c act) (wf : WfT es hd (actT es c act)) (r : RchT es (actT es c act) c') (hno : c'.fin = .no) (wf' : WfT es hd c') (ea : stepT es c' = actT es c' act') (hm : c'.most = m)
    (ac : ActOk hd c'.tab act') : Head es hd m f ns c' act' ∧ muT c' < muT c := by
  obtain ⟨a, b⟩ := wf_stepT E wf'
  rw [ea] at a b
  have h1 := (r.wf E wf).2
  have h2 := h.mu
  have h3 := r.sz E wf
  have h4 := h.sz
  have rs : RchT es (actT es c act) (actT es c' act') := by
    rw [← ea]
    exact .snoc r hno
  refine ⟨⟨hno, hm, h.rc.trans rs, a, b, Nat.le_trans (rs.sz E wf) h4, ?_, ac⟩, by omega⟩
  unfold szT at h3 h4
  omega
theorem reach_most {es : List TEr} {c c' : CT} (h : RchT es c c') : c'.most = c.most := by
  induction h with
  | refl => rfl
  | snoc _ _ ih =>
    rw [← ih]
    unfold stepT askT
    repeat' split
    all_goals rfl
theorem ask_most {es : List TEr} {c : CT} {f : Str} {ns : List Int} {i : Nat} : (askT es c f ns i).most = c.most := by
  unfold askT
  repeat' split
  all_goals rfl
def LoopInv (es : List TEr) (hd : Str → Option Nat) (m : Nat) (f : Str) (ns : List Int) (bk nb ed nd tl : Addr) (H0 : Hp) (k : Nat) (σ : St) (H : Hp) : Prop :=
  ∃ c act q tv o5 o6 o7 o10 o11 o12 o13 o14, σ = [some (.ref bk), some (.str f), some (.ref nb), some (.int m), some (.ref ed), o5, o6, o7, some (.ref nd), some (.ref q), o10, o11, o12, o13, o14] ∧ k = muT c ∧ Head es hd m f ns c act ∧ NowL H nd tl c tv ∧ ActAt [nd, tl] H c.tab q act ∧ ErT H es ed ∧ Same H0 H
def MidL (es : List TEr) (m : Nat) (f : Str) (bk nb ed nd tl : Addr) (H0 : Hp) (X : CT) (σ : St) (H : Hp) : Prop := ∃ o5 q1 o10 o11 o13 o14 pa nm hb tv n, σ = [some (.ref bk), some (.str f), some (.ref nb), some (.int m), some (.ref ed), o5, some (.ref nm), some (.ref pa), some (.ref nd), q1, o10, o11, some (.ref hb), o13, o14] ∧
  NowL H nd tl X tv ∧ nd ≠ nm ∧ tl ≠ nm ∧ AroundL [nd, tl, nm] H X pa nm hb n ∧ ErT H es ed ∧ ed ≠ nm ∧ Same H0 H ∧ H0 nm = none ∧ X.fin = .no
theorem er_fr {A : List Addr} {H H' : Hp} {es : List TEr} {ed : Addr} (h : ErT H es ed) (n : ed ∉ A) (f : FrA A H H') (tk : TK H H') : ErT H' es ed :=
  let ⟨kvs, a, b⟩ := h; ⟨kvs, f _ _ n a, fun e he => let ⟨qa, r, b, c1, c2, c3, c4⟩ := b e he; ⟨qa, r, b, c1, tk _ _ c2, tk _ _ c3, PAt.tk tk c4⟩⟩
theorem ok_lrunT (T : Txt K mg) {f f1 : Addr} {fd d1 : FuncData} (F : Fun K "_law_turned_run" "_law_turned_run" s_law_turned_run f fd) (G_law_along : FnOk P w K mg base CX0 65 f1 d1 ["now", "part", "names", "hands"] spAlong) (R_law_along : Ref K mg "_law_along" f1 d1 ["now", "part", "names", "hands"]) : FnOk P w K mg base CX0 66 f fd ["turned", "f", "numbers", "most"] spLRunT := by
  refine F.ok scLturned_run (fun vs H Q E h => ?_) (fun cdv A outer s H vs Q E hr h => ?_)
  · obtain ⟨bk, nb, es, us, hd, e, ns, m, rfl, _⟩ := h
    rfl
  obtain ⟨bk, nb, es, us, hd, e, ns, m, rfl, hB, hnd, h6, E0, he, hen, hnb, hl, hm, q⟩ := h
  refine ⟨_, (pss_cons (ps_set (i := 4) scLturned_run.nd rfl (Or.inl rfl) pe_dnewK)
    (pss_cons (ps_for PassesOwn.never rfl (pi_tup (pv 0)) (pg_tup rfl (pgs_cons (pg_name (i := 5) scLturned_run.nd rfl (Or.inl rfl)) (pgs_cons (pg_name (i := 6) scLturned_run.nd rfl (Or.inl rfl)) (pgs_cons (pg_name (i := 7) scLturned_run.nd rfl (Or.inl rfl)) pgs_nil)))) (pss_one (ps_dput (hu_of hr) (pv 4) (pv 5) (pe_tup (pa_cons (pv 6) (pa_cons (pv 7) pa_nil))) rfl)))
    (pss_cons (ps_set (i := 8) scLturned_run.nd rfl (Or.inl rfl) (pe_disp (pps_cons pe_str (pe_lst pa_nil) (pps_cons pe_str pe_int (pps_cons pe_str pe_int (pps_cons pe_str pe_int pps_nil)))) (by rfl) (by rfl) (fun z => by cases z) (by decide)))
    (pss_cons (ps_set (i := 9) scLturned_run.nd rfl (Or.inl rfl) (pe_tup (pa_cons pe_str (pa_cons (pv 1) (pa_cons (pv 2) (pa_cons (pe_tup (pa_cons pe_int pa_nil)) pa_nil))))))
    (pss_one (ps_while PassesOwn.never (pt_val pe_bl) (pss_cons (ps_if (PW.pt (pw_and (pt_cmpR op_eq (pe_ix ix_tup (pv 9) pe_int (fun _ _ => rfl)) pe_str (nomark _)) (pw_and1 (pt_cmpR op_eq (pe_callB call_len_seq (by rfl) T.m_len PySem.boot_len (pa_cons (pe_ix ix_tup (pv 9) pe_int (fun _ _ => rfl)) pa_nil)) pe_int (nomark _))))) (pss_one (ps_ret (pe_tup (pa_cons (pe_dget (hu_of hr) (pv 8) pe_str (fun _ _ => rfl)) (pa_cons (pe_tup (pa_cons pe_str (pa_cons (pe_ix ix_tup (pv 9) pe_int (fun _ _ => rfl)) pa_nil))) (pa_cons (pe_dget (hu_of hr) (pv 8) pe_str (fun _ _ => rfl)) (pa_cons (pe_dget (hu_of hr) (pv 8) pe_str (fun _ _ => rfl)) pa_nil))))))) pss_nil)
    (pss_cons (ps_if (PW.pt (pw_and (pt_cmpR op_eq (pe_ix ix_tup (pv 9) pe_int (fun _ _ => rfl)) pe_str (nomark _)) (pw_and1 (pt_cmpR op_eq (pe_dget (hu_of hr) (pv 8) pe_str (fun _ _ => rfl)) (pv 3) (nomark _))))) (pss_one (ps_ret (pe_tup (pa_cons (pe_dget (hu_of hr) (pv 8) pe_str (fun _ _ => rfl)) (pa_cons (pe_tup (pa_cons pe_str pa_nil)) (pa_cons (pe_dget (hu_of hr) (pv 8) pe_str (fun _ _ => rfl)) (pa_cons (pe_dget (hu_of hr) (pv 8) pe_str (fun _ _ => rfl)) pa_nil))))))) pss_nil)
    (Evl.pss_cut (ps_if (pt_cmpR op_eq (pe_ix ix_tup (pv 9) pe_int (fun _ _ => rfl)) pe_str (nomark _)) (pss_cons (ps_dput (hu_of hr) (pv 8) pe_str (pe_op op_add (pe_dget (hu_of hr) (pv 8) pe_str (fun _ _ => rfl)) pe_int) rfl)
    (pss_cons (ps_expr (pe_bm PySem.F.plainAttrs_list PySem.F.slot_list_append PySem.F.type_list_append mt_append (pe_dget (hu_of hr) (pv 8) pe_str (fun _ _ => rfl)) (pa_cons (pe_slice sl_tupA (pv 9) po_none (po_some pe_int)) pa_nil)))
    (pss_cons (ps_dput (hu_of hr) (pv 8) pe_str (pe_callB (call_max2 rfl) (by rfl) T.m_max (by decide +kernel) (pa_cons (pe_dget (hu_of hr) (pv 8) pe_str (fun _ _ => rfl)) (pa_cons (pe_ix ix_tup (pe_ix ix_tup (pv 9) pe_int (fun _ _ => rfl)) pe_int (fun _ _ => rfl)) pa_nil))) rfl)
    (pss_cons (ps_asg (pe_dget (hu_of hr) (pv 4) (pe_ix ix_tup (pv 9) pe_int (fun _ _ => rfl)) (fun _ _ => rfl)) (pg_tup rfl (pgs_cons (pg_name (i := 10) scLturned_run.nd rfl (Or.inl rfl)) (pgs_cons (pg_name (i := 7) scLturned_run.nd rfl (Or.inl rfl)) pgs_nil))))
    (pss_cons (ps_set (i := 6) scLturned_run.nd rfl (Or.inl rfl) pe_dnewK)
    (pss_cons (ps_for PassesOwn.never rfl (pi_range1 rfl T.m_range (pa_cons (pe_callB call_len_seq (by rfl) T.m_len PySem.boot_len (pa_cons (pv 10) pa_nil)) pa_nil)) (pg_name (i := 11) scLturned_run.nd rfl (Or.inl rfl)) (pss_one (ps_dput (hu_of hr) (pv 6) (pe_ix ix_tup (pv 10) (pv 11) (fun _ _ => rfl)) (pe_ix ix_tup (pe_ix ix_tup (pv 9) pe_int (fun _ _ => rfl)) (pv 11) (fun _ _ => rfl)) rfl)))
    (pss_one (ps_set (i := 12) scLturned_run.nd rfl (Or.inl rfl) (pe_disp (pps_cons pe_str (pe_ix ix_tup (pv 9) pe_int (fun _ _ => rfl)) pps_nil) (by rfl) (by rfl) (fun z => by cases z) (by decide)))))))))) (pss_cons (ps_asg (pe_ix ix_tup (pv 9) pe_int (fun _ _ => rfl)) (pg_tup rfl (pgs_cons (pg_name (i := 13) scLturned_run.nd rfl (Or.inl rfl)) (pgs_cons (pg_name (i := 14) scLturned_run.nd rfl (Or.inl rfl)) (pgs_cons (pg_name (i := 7) scLturned_run.nd rfl (Or.inl rfl)) (pgs_cons (pg_name (i := 6) scLturned_run.nd rfl (Or.inl rfl)) (pgs_cons (pg_name (i := 12) scLturned_run.nd rfl (Or.inl rfl)) pgs_nil)))))))
    (pss_cons (ps_set (i := 6) scLturned_run.nd rfl (Or.inl rfl) (pe_callTy call_dictD (by rfl) T.m_dict (by decide +kernel) (pa_cons (pv 6) pa_nil)))
    (pss_one (ps_dput (hu_of hr) (pv 6) (pv 14) (pe_ix ix_tup (pv 9) pe_int (fun _ _ => rfl)) rfl)))))
    (pss_one (ps_set (i := 9) scLturned_run.nd rfl (Or.inl rfl) (pe_call G_law_along (hr.mono (by omega)) rfl R_law_along.m R_law_along.k R_law_along.b .nil pass0 (pa_cons (pv 8) (pa_cons (pv 7) (pa_cons (pv 6) (pa_cons (pe_callTy call_dictD (by rfl) T.m_dict (by decide +kernel) (pa_cons (pv 12) pa_nil)) pa_nil)))))))))))))))), ?_⟩
  have hf : hd e.1 = some ns.length := by rw [(E0.er e he).hf, hen]
  obtain ⟨hst, hsz0⟩ := startT E0 (f := e.1) (ns := ns) hf hm
  intro ed hed
  have s0 := same_new hed (.dK [])
  -- errands
  have hul := hB.2.len
  refine ⟨_, rfl, bk, rfl, ⟨_, SqT.of (s0 _ _ hB.1)⟩, for_tup (xs := us) (fun i σ H' => ∃ o5 o6 o7, σ = [some (.ref bk), some (.str e.1), some (.ref nb), some (.int m), some (.ref ed), o5, o6, o7, none, none, none, none, none, none, none] ∧ Same H H' ∧ ∃ kvs, H' ed = some (.dK kvs) ∧ kvs.length ≤ i ∧ ∀ j e, j < i → es[j]? = some e → ∃ qa r b, valV kvs (Sum.inr e.1) = some (.ref qa) ∧ H' qa = some (.tup [.ref r, .ref b]) ∧ H' r = some (.tup (e.2.1.map V.str)) ∧ PAt H' e.2.2 b) ?_ ?_ ?_ ?_⟩
  · exact ⟨none, none, none, rfl, s0, [], upd_same, Nat.le_refl _, fun j e hj => absurd hj (Nat.not_lt_zero _)⟩
  · rintro i σ H' _ ⟨_, _, _, rfl, sA, _⟩
    exact SqT.of (sA _ _ hB.1)
  · rintro i x σ H1 hx ⟨o5, o6, o7, rfl, s1, kvs, hk, hl1, hall⟩
    obtain ⟨e1, he1, qe, r, b, rfl, g1, g2, g3⟩ := hB.2.get hx
    refine ⟨qe, _, rfl, SqT.of (s1 _ _ g1), rfl, _, _, rfl, _, _, rfl, _, _, rfl, rfl, ?_⟩
    refine ⟨_, rfl, _, rfl, by show 2 ≤ sizeLine; decide, fun t ht => ?_⟩
    have s2 := same_new ht (.tup [.ref r, .ref b])
    have hk2 := s2 _ _ hk
    have hi := (List.getElem?_eq_some_iff.mp hx).1
    refine ⟨_, rfl, _, rfl, ed, _, rfl, DPut.k (k := Sum.inr e1.1) hk2 (big (by omega)), _, _, _, rfl, same_mut (s1.trans s2) hed, _, upd_same, Nat.le_trans putK_len (Nat.succ_le_succ hl1), fun j e' hj he' => ?_⟩
    have tk : TK (upd H1 t (.tup [.ref r, .ref b])) (upd (upd H1 t (.tup [.ref r, .ref b])) ed (.dK (putK kvs (Sum.inr e1.1) (.ref t)))) := tk_putD hk2
    have tk2 := (tk_same s2).trans tk
    by_cases q : j = i
    · subst q
      rw [he1] at he'
      cases he'
      exact ⟨t, r, b, by rw [valV_put, if_pos rfl], tk _ _ upd_same, tk2 _ _ (s1 _ _ g2), PAt.tk tk2 (PAt.tk (tk_same s1) g3)⟩
    · obtain ⟨qa, r', b', a1, a2, a3, a4⟩ := hall j e' (by omega) he'
      have ne : ¬ (Sum.inr e'.1 : Key) = Sum.inr e1.1 := fun z => by
        have z' := Sum.inr.inj z
        have h1 : (es.map (·.1))[j]? = some e'.1 := by rw [List.getElem?_map, he']; rfl
        have h2 : (es.map (·.1))[i]? = some e1.1 := by rw [List.getElem?_map, he1]; rfl
        exact q (nd_ix hnd h1 (by rw [z']; exact h2))
      exact ⟨qa, r', b', by rw [valV_put, if_neg ne]; exact a1, tk2 _ _ a2, tk2 _ _ a3, PAt.tk tk2 a4⟩
  rintro σ H1 ⟨o5, o6, o7, rfl, s1, kvs, hk, hl1, hall⟩
  have er1 : ErT H1 es ed := ⟨kvs, hk, fun e he => by
    obtain ⟨j, hj⟩ := List.mem_iff_getElem?.mp he
    exact hall j e (by rw [hul]; exact (List.getElem?_eq_some_iff.mp hj).1) hj⟩
  clear hall hk hl1 s0
  -- now
  intro nd hnd'
  have s2 := same_new hnd' (.dK [])
  refine ⟨sz (by show 0 ≤ 100000; decide), fun tl htl => ?_⟩
  have s3 := s2.trans (same_new htl (.lst []))
  have ntl : nd ≠ tl := fun z => by
    rw [← z, upd_same] at htl
    cases htl
  refine ⟨by rw [upd_ne ntl, upd_same], [(Sum.inr "trail", .ref tl), (Sum.inr "deepest", .int 0), (Sum.inr "made", .int 0), (Sum.inr "many", .int 0)], rfl, by show 4 ≤ 15; decide, ?_⟩
  have s4 : Same H1 (upd (upd (upd H1 nd (.dK [])) tl (.lst [])) nd (.dK (mergeK [] [((Sum.inr "trail" : Key), V.ref tl), (Sum.inr "deepest", .int 0), (Sum.inr "made", .int 0), (Sum.inr "many", .int 0)]))) := same_mut s3 hnd'
  have n4 : upd (upd (upd H1 nd (.dK [])) tl (.lst [])) nd (.dK (mergeK [] [((Sum.inr "trail" : Key), V.ref tl), (Sum.inr "deepest", .int 0), (Sum.inr "made", .int 0), (Sum.inr "many", .int 0)])) nd = some (.dK (nowK_9 tl 0 0 0)) := upd_same
  have t4 : upd (upd (upd H1 nd (.dK [])) tl (.lst [])) nd (.dK (mergeK [] [((Sum.inr "trail" : Key), V.ref tl), (Sum.inr "deepest", .int 0), (Sum.inr "made", .int 0), (Sum.inr "many", .int 0)])) tl = some (.lst []) := by
    rw [upd_ne (Ne.symm ntl), upd_same]
  have hnd0 : H nd = none := s1.free hnd'
  have htl0 : H tl = none := s1.free (s2.free htl)
  generalize upd (upd (upd H1 nd (.dK [])) tl (.lst [])) nd (.dK (mergeK [] [((Sum.inr "trail" : Key), V.ref tl), (Sum.inr "deepest", .int 0), (Sum.inr "made", .int 0), (Sum.inr "many", .int 0)])) = H2 at s4 n4 t4 ⊢
  clear s2 s3 htl
  have s12 := s1.trans s4
  have er2 : ErT H2 es ed := er1.ix (CR := 0) (ix_same s4)
  -- goes
  refine ⟨_, rfl, _, rfl, sz (by show 1 ≤ 100000; decide), fun z0 hz0 => ⟨sz (by show 4 ≤ 100000; decide), fun q0 hq0 => ?_⟩⟩
  have s5 := same_new hz0 (.tup [.int 0])
  have s6 := same_new hq0 (.tup [.str "ask", .str e.1, .ref nb, .ref z0])
  have s56 := s5.trans s6
  have N0 : NowL H2 nd tl (ct0 m) [] := ⟨n4, t4, trivial⟩
  refine ⟨LoopInv es hd m e.1 ns bk nb ed nd tl H, ⟨_, ct0 m, .ask e.1 ns 0, q0, [], _, _, _, none, none, none, none, none, rfl, rfl, ⟨rfl, rfl, .refl _, hst, ?_, hsz0, by show 0 ≤ _; omega, hf, Nat.zero_le _⟩, N0.same s56, ⟨nb, .ref z0, upd_same, s56 _ _ (s12 _ _ hnb), .fin z0 (s6 _ _ upd_same)⟩, er2.ix (CR := 0) (ix_same s56), s12.trans s56⟩, ?_⟩
  · obtain ⟨e2, he1, he2, he3, he4⟩ := E0.found hf
    have ge := E0.er e2 he2
    show muT (askT es (ct0 m) e.1 ns 0) < muT (ct0 m)
    unfold askT
    by_cases h0 : m = 0
    · rw [if_pos (show (ct0 m).asked = (ct0 m).most from h0.symm)]
      unfold muT muB
      show (m - 0) * 1000 + (1 + 0) + 0 < (m - 0) * 1000 + (1 + 0) + 1
      omega
    · rw [if_neg (show ¬ (ct0 m).asked = (ct0 m).most from fun z => h0 z.symm), he1]
      have := ge.cn
      unfold muT muB
      show (m - (0 + 1)) * 1000 + (pcnt e2.2.2 + 0) + 1 < (m - 0) * 1000 + (1 + 0) + 1
      omega
  have hedn : ed ≠ nd := by
    obtain ⟨kv, a, _⟩ := er1
    exact ne_of_none a hnd'
  clear n4 t4 N0 er1 er2 s12 s56 s5 s6 s4 hz0 hq0 s1 hnd'
  rintro k σ H3 ⟨c, act, q1, tv, o5, o6, o7, o10, o11, o12, o13, o14, rfl, rfl, hh, N, hact, er, s03⟩
  have hlt := N.te.len
  cases act with
  | ask g ms i =>
    obtain ⟨mb, v, h1, h2, h3⟩ := id hact
    obtain ⟨hq, rr, rfl, hh1, hh2⟩ := lhon_h h3
    have hac : hd g = some ms.length ∧ i ≤ c.tab.length := hh.ac
    have hcm := hh.mo
    refine ⟨_, rfl, itT rfl ⟨fun σ' H' => ∃ m', m' < muT c ∧ LoopInv es hd m e.1 ns bk nb ed nd tl H m' σ' H', fun _ _ z => z, ?_⟩⟩
    refine ⟨_, rfl, q1, _, _, _, rfl, rfl, SqT.of h1, at0, rfl, _, rfl, itF rfl (iteF ?_)⟩
    refine ⟨_, rfl, q1, _, _, _, rfl, rfl, SqT.of h1, at0, rfl, _, rfl, itT rfl ?_⟩
    refine ⟨_, rfl, nd, _, rfl, DGet.k (k := Sum.inr "many") N.n, _, rfl, rfl, _, rfl, ?_⟩
    by_cases hak : c.asked = c.most
    · have eA : askT es c g ms i = { c with fin := .long } := by
        unfold askT
        rw [if_pos hak]
      refine itT (decide_eq_true (by show V.int (c.asked : Int) = V.int (m : Int); rw [hak, hcm])) ?_
      refine ⟨_, rfl, nd, _, rfl, DGet.k (k := Sum.inr "trail") N.n, sz (by show 1 ≤ 100000; decide), fun t ht => ?_⟩
      have s1 := same_new ht (.tup [.str "long"])
      have N1 := N.same s1
      refine ⟨_, rfl, nd, _, rfl, DGet.k (k := Sum.inr "deepest") N1.n, _, rfl, nd, _, rfl, DGet.k (k := Sum.inr "made") N1.n, sz (by show 4 ≤ 100000; decide), fun qe hqe => ?_⟩
      have s2 := same_new hqe (.tup [.ref tl, .ref t, .int c.deepest, .int c.made])
      have N2 := N1.same s2
      have ht2 : upd (upd H3 t (.tup [.str "long"])) qe (.tup [.ref tl, .ref t, .int c.deepest, .int c.made]) t = some (.tup [.str "long"]) := s2 _ _ upd_same
      have rc := hh.rc
      have rc : RchT es (askT es (ct0 m) e.1 ns 0) (askT es c g ms i) := rc
      rw [eA] at rc
      exact q _ qe tl tv (.ref t) { c with fin := .long } (s03.trans (s1.trans s2)) upd_same N2.t N2.te ⟨t, rfl, ht2⟩ hh.tr ⟨rc, fun y => by cases y⟩
    · refine itF (decide_eq_false fun y => hak (by have := V.int.inj (show V.int (c.asked : Int) = V.int (m : Int) from y); omega)) ?_
      obtain ⟨e2, he1, he2, he3, he4⟩ := E0.found hac.1
      have ge := E0.er e2 he2
      have eA : askT es c g ms i = { c with asked := c.asked + 1, trail := c.trail ++ [.ask g ms], deepest := max c.deepest (hiAt c.tab i), part := e2.2.2, env := envOf e2.2.1 ms, hs := fun y => if y = "home" then some i else none } := by
        unfold askT
        rw [if_neg hak, he1]
      refine ⟨MidL es m e.1 bk nb ed nd tl H (askT es c g ms i), ?_, ?_⟩
      rotate_left
      · rintro σ' H4 ⟨o5, q2, o10, o11, o13, o14, pa, nm, hb, tv4, n, rfl, N4, nnd, ntm, R4, er4, nem, s04, hnm0, hXno⟩
        obtain ⟨kvs, d1, d2, d3⟩ := R4.h
        refine ⟨_, rfl, _, rfl, _, rfl, _, rfl, hb, kvs, rfl, .inl d1, fun hb2 hhb2 => ?_⟩
        have s5 := same_new hhb2 (.dK kvs)
        have N5 := N4.same s5
        have h5 : upd H4 hb2 (.dK kvs) hb2 = some (.dK kvs) := upd_same
        obtain ⟨kvw, w1, w2⟩ := R4.e
        have hap : Apart nd tl nm hb2 := ⟨ntl, nnd, ne_of_none N4.n hhb2, ntm, ne_of_none N4.t hhb2, ne_of_none w1 hhb2⟩
        have wfX := hh.wf.resolve_right fun z => z hXno
        have hb0 : H hb2 = none := s04.free hhb2
        refine ⟨es, hd, _, nd, tl, pa, nm, hb2, tv4, n, rfl, hap, N5, ⟨PAt.tk (tk_same s5) R4.p, ⟨kvw, s5 _ _ w1, w2⟩, ⟨kvs, h5, d2, fun y i hy => ?_⟩, R4.n⟩, hXno, wfX, E0, hh.sz, fun H6 q6 c6 tv6 act6 r6 no6 wf6 ea6 ac6 N6 A6 f6 tk6 => ?_⟩
        · obtain ⟨u, z1, z2⟩ := d3 y i hy
          refine ⟨u, (z1.fresh (A' := [nd, tl, nm, hb2]) fun a ha => ?_).keep (fun _ _ z => z) (fr_same s5) (tk_same s5), z2⟩
          rcases List.mem_cons.mp ha with z | z
          · rw [z]; exact .inl List.mem_cons_self
          rcases List.mem_cons.mp z with z | z
          · rw [z]; exact .inl (List.mem_cons_of_mem _ List.mem_cons_self)
          rcases List.mem_cons.mp z with z | z
          · rw [z]; exact .inl (List.mem_cons_of_mem _ (List.mem_cons_of_mem _ List.mem_cons_self))
          · rw [List.mem_singleton.mp z]; exact .inr hhb2
        have m6 : c6.most = m := by
          rw [reach_most r6, ← hh.mo]
          exact ask_most
        obtain ⟨hh6, mu6⟩ := head_next E0 hh wfX r6 no6 wf6 ea6 m6 ac6
        have hed : ed ∉ [nd, tl, nm, hb2] := by
          obtain ⟨kv, a1, _⟩ := er4
          rw [List.mem_cons, List.mem_cons, List.mem_cons, List.mem_singleton, not_or, not_or, not_or]
          exact ⟨hedn, ne_of a1 N4.t (fun z => by cases z), nem, ne_of_none a1 hhb2⟩
        refine ⟨muT c6, mu6, c6, act6, q6, tv6, _, _, _, _, _, _, _, _, rfl, rfl, hh6, N6, A6, er_fr (er4.ix (CR := 0) (ix_same s5)) hed f6 tk6, fr_new (s04.trans s5) f6 fun a ha => ?_⟩
        rcases List.mem_cons.mp ha with z | z
        · rw [z]; exact hnd0
        rcases List.mem_cons.mp z with z | z
        · rw [z]; exact htl0
        rcases List.mem_cons.mp z with z | z
        · rw [z]; exact hnm0
        · rw [List.mem_singleton.mp z]; exact hb0
      refine ⟨_, rfl, q1, _, _, _, rfl, rfl, SqT.of h1, at0, rfl, _, rfl, itT rfl ?_⟩
      rw [eA]
      -- many
      refine ⟨_, rfl, nd, _, rfl, DGet.k (k := Sum.inr "many") N.n, _, _, rfl, rfl, _, rfl, nd, _, rfl, DPut.k (k := Sum.inr "many") N.n (big (by show 4 ≤ _; decide)), ?_⟩
      have tk4 : TK H3 (upd H3 nd (.dK (putK (nowK_9 tl c.deepest c.made c.asked) (Sum.inr "many") (.int ((c.asked : Int) + 1))))) := tk_putD N.n
      have fr4 : FrA [nd, tl] H3 (upd H3 nd (.dK (putK (nowK_9 tl c.deepest c.made c.asked) (Sum.inr "many") (.int ((c.asked : Int) + 1))))) := fr_upd (by simp) _
      have N4 : NowL (upd H3 nd (.dK (putK (nowK_9 tl c.deepest c.made c.asked) (Sum.inr "many") (.int ((c.asked : Int) + 1))))) nd tl { c with asked := c.asked + 1 } tv := ⟨by rw [upd_same]; rfl, by rw [upd_ne (Ne.symm ntl)]; exact N.t, N.te.imp fun _ _ z => z.tk tk4⟩
      generalize upd H3 nd (.dK (putK (nowK_9 tl c.deepest c.made c.asked) (Sum.inr "many") (.int ((c.asked : Int) + 1)))) = H4 at tk4 fr4 N4 ⊢
      -- trail
      refine ⟨_, rfl, nd, _, rfl, DGet.k (k := Sum.inr "trail") N4.n, .inl ⟨rfl, _, SqL.of N4.t⟩, ?_⟩
      have hlt4 := N4.te.len
      dsimp only [tNoPart]
      refine ⟨_, rfl, _, rfl, q1, _, rfl, SqT.of (tk4 _ _ h1), fun hw => ?_, fun _ t ht => ?_⟩
      · exfalso
        have hw2 := hw.2
        rw [sIx_at (by decide) (by show 3 ≤ 4; decide)] at hw2
        exact absurd (show (3 : Nat) = 4 from hw2) (by decide)
      have ec : cutV [V.str "ask", .str g, .ref mb, .ref hq] none (some 3) = [V.str "ask", .str g, .ref mb] := cut_to (by decide) (by show 3 ≤ 4; decide)
      rw [ec]
      have s5 := same_new ht (.tup [V.str "ask", .str g, .ref mb])
      have N5 := N4.same s5
      have q5 : upd H4 t (.tup [V.str "ask", .str g, .ref mb]) t = some (.tup [V.str "ask", .str g, .ref mb]) := upd_same
      have tk5 := tk4.trans (tk_same s5)
      have fr5 := fr4.trans (fr_same s5)
      generalize upd H4 t (.tup [V.str "ask", .str g, .ref mb]) = H5 at N5 q5 tk5 fr5 ⊢
      have htr := hh.tr
      refine ⟨tl, _, _, rfl, rfl, N5.t, big (by omega), ?_⟩
      have tk6' : TK H5 (upd H5 tl (.lst (tv ++ [.ref t]))) := tk_put N5.t
      have fr6' : FrA [nd, tl] H5 (upd H5 tl (.lst (tv ++ [.ref t]))) := fr_upd (by simp) _
      have N6 : NowL (upd H5 tl (.lst (tv ++ [.ref t]))) nd tl { c with asked := c.asked + 1, trail := c.trail ++ [.ask g ms] } (tv ++ [.ref t]) := ⟨by rw [upd_ne ntl]; exact N5.n, upd_same, (N5.te.imp fun _ _ z => z.tk tk6').app ⟨⟨t, mb, rfl, tk6' _ _ q5, tk6' _ _ (tk5 _ _ h2)⟩, trivial⟩⟩
      have tk6 := tk5.trans tk6'
      have fr6 := fr5.trans fr6'
      generalize upd H5 tl (.lst (tv ++ [.ref t])) = H6 at N6 tk6 fr6 ⊢
      -- deepest
      refine ⟨_, rfl, nd, _, rfl, DGet.k (k := Sum.inr "deepest") N6.n, _, rfl, q1, _, _, _, rfl, rfl, SqT.of (tk6 _ _ h1), at3, hq, _, _, _, rfl, rfl, SqT.of (tk6 _ _ hh1), at0, _, _, rfl, _, rfl, nd, _, rfl, DPut.k (k := Sum.inr "deepest") N6.n (big (by show 4 ≤ _; decide)), ?_⟩
      rw [max_eq]
      have tk7' : TK H6 (upd H6 nd (.dK (putK (nowK_9 tl c.deepest c.made ((c.asked + 1 : Nat) : Int)) (Sum.inr "deepest") (.int (max c.deepest (hiAt c.tab i)))))) := tk_putD N6.n
      have fr7' : FrA [nd, tl] H6 (upd H6 nd (.dK (putK (nowK_9 tl c.deepest c.made ((c.asked + 1 : Nat) : Int)) (Sum.inr "deepest") (.int (max c.deepest (hiAt c.tab i)))))) := fr_upd (by simp) _
      have N7 : NowL (upd H6 nd (.dK (putK (nowK_9 tl c.deepest c.made ((c.asked + 1 : Nat) : Int)) (Sum.inr "deepest") (.int (max c.deepest (hiAt c.tab i)))))) nd tl { c with asked := c.asked + 1, trail := c.trail ++ [.ask g ms], deepest := max c.deepest (hiAt c.tab i) } (tv ++ [.ref t]) := ⟨by rw [upd_same]; rfl, by rw [upd_ne (Ne.symm ntl)]; exact N6.t, N6.te.imp fun _ _ z => z.tk tk7'⟩
      have tk7 := tk6.trans tk7'
      have fr7 := fr6.trans fr7'
      generalize upd H6 nd (.dK (putK (nowK_9 tl c.deepest c.made ((c.asked + 1 : Nat) : Int)) (Sum.inr "deepest") (.int (max c.deepest (hiAt c.tab i))))) = H7 at N7 tk7 fr7 ⊢
      -- words, part
      have hed2 : ed ∉ [nd, tl] := by
        obtain ⟨kv, a1, _⟩ := er
        rw [List.mem_cons, List.mem_singleton, not_or]
        exact ⟨hedn, ne_of a1 N.t (fun z => by cases z)⟩
      have er7 := er_fr er hed2 fr7 tk7
      obtain ⟨kve, k1, k2⟩ := id er7
      obtain ⟨qa, ra, ba, g1, g2, g3, g4⟩ := k2 e2 he2
      rw [he3] at g1
      refine ⟨_, rfl, _, rfl, q1, _, _, _, rfl, rfl, SqT.of (tk7 _ _ h1), at1, ed, .ref qa, rfl, get_of k1 g1, qa, _, rfl, SqT.of g2, rfl, _, _, rfl, _, _, rfl, rfl, ?_⟩
      -- names
      intro nm hnm
      have nnd : nd ≠ nm := ne_of_none N7.n hnm
      have ntm : tl ≠ nm := ne_of_none N7.t hnm
      have nem : ed ≠ nm := ne_of_none k1 hnm
      have v15 := (tk7 _ _ h1)
      have v25 := (tk7 _ _ h2)
      have s8 := same_new hnm (.dK [])
      have n8 : upd H7 nm (.dK []) nm = some (.dK []) := upd_same
      have eL : ((e2.2.1.map V.str).length : Int) = ((e2.2.1.length : Nat) : Int) := by rw [List.length_map]
      have hz62 : (2 : Int) ^ 62 = 4611686018427387904 := by decide
      have hn : (((e2.2.1.map V.str).length : Nat) : Int).toNat = e2.2.1.length := by rw [List.length_map]; omega
      have hn5 := ge.n4
      refine ⟨_, rfl, ra, _, rfl, .inr (SqT.of (s8 _ _ g3)), _, rfl, by rw [eL, hz62]; omega, by rw [eL, hz62]; omega, ?_⟩
      rw [hn]
      generalize upd H7 nm (.dK []) = H8 at s8 n8 ⊢
      refine for_range (lo := 0) (n := e2.2.1.length) (fun k σ H' => ∃ o11, σ = [some (.ref bk), some (.str e.1), some (.ref nb), some (.int m), some (.ref ed), o5, some (.ref nm), some (.ref ba), some (.ref nd), some (.ref q1), some (.ref ra), o11, o12, o13, o14] ∧ Same H7 H' ∧ ∃ kvs, H' nm = some (.dK kvs) ∧ kvs.length ≤ k ∧ ∀ x : Str, valV kvs (Sum.inr x) = (envOf (e2.2.1.take k) (ms.take k) x).map V.int) ⟨_, rfl, s8, [], n8, Nat.le_refl _, fun x => rfl⟩ ?_ ?_
      · rintro k σ H9 hk ⟨o11, rfl, s9, kvs, h9, hl9, hv9⟩
        obtain ⟨x, hx⟩ : ∃ x, e2.2.1[k]? = some x := ⟨_, List.getElem?_eq_getElem hk⟩
        obtain ⟨z, hz⟩ : ∃ z, ms[k]? = some z := ⟨_, List.getElem?_eq_getElem (by omega)⟩
        refine ⟨_, rfl, q1, _, _, _, rfl, rfl, SqT.of (s9 _ _ v15), at2, _, rfl, mb, _, _, _, rfl, rfl, SqT.of (s9 _ _ v25), at_of (j := k) (by omega) (by rw [List.getElem?_map, hz]; rfl), _, rfl, _, rfl, _, rfl, ra, _, _, _, rfl, rfl, SqT.of (s9 _ _ g3), at_of (j := k) (by omega) (by rw [List.getElem?_map, hx]; rfl), nm, _, rfl, DPut.k (k := (Sum.inr x : Key)) h9 (big (by omega)), ?_⟩
        obtain ⟨hk1, hk2⟩ := List.getElem?_eq_some_iff.mp hx
        obtain ⟨hk3, hk4⟩ := List.getElem?_eq_some_iff.mp hz
        refine ⟨_, rfl, same_mut s9 hnm, _, upd_same, Nat.le_trans putK_len (Nat.succ_le_succ hl9), fun y => ?_⟩
        rw [List.take_succ_eq_append_getElem hk1, hk2, List.take_succ_eq_append_getElem hk3, hk4, valV_put, envOf_snoc (by rw [List.length_take, List.length_take]; omega) (fun hmem => ?_)]
        · by_cases ey : y = x
          · rw [if_pos (by rw [ey]), if_pos ey]
            rfl
          · rw [if_neg (fun e => ey (Sum.inr.inj e)), if_neg ey]
            exact hv9 y
        · obtain ⟨l, hl1, hl2⟩ := List.mem_iff_getElem.mp hmem
          rw [List.getElem_take] at hl2
          rw [List.length_take] at hl1
          have := nd_ix ge.nd (List.getElem?_eq_some_iff.mpr ⟨by omega, hl2⟩) hx
          omega
      rintro σ H9 ⟨o11, rfl, s9, kvs, h9, hl9, hv9⟩
      have et1 : e2.2.1.take e2.2.1.length = e2.2.1 := List.take_length
      have et2 : ms.take e2.2.1.length = ms := by rw [he4]; exact List.take_length
      rw [et1, et2] at hv9
      -- hands
      intro hb hhb
      have s10 := same_new hhb (.dK [])
      refine ⟨_, rfl, q1, _, _, _, rfl, rfl, SqT.of (s10 _ _ (s9 _ _ v15)), at3, upd_same, [(Sum.inr ("home" : Str), .ref hq)], rfl, by show 1 ≤ 15; decide, ?_⟩
      rw [upd_upd]
      have s11 := same_new hhb (.dK (mergeK [] [((Sum.inr ("home" : Str) : Key), V.ref hq)]))
      have h11 : upd H9 hb (.dK (mergeK [] [((Sum.inr ("home" : Str) : Key), V.ref hq)])) hb = some (.dK [(Sum.inr ("home" : Str), .ref hq)]) := upd_same
      have s711 := s9.trans s11
      have N11 := N7.same s711
      have nm11 := s11 _ _ h9
      generalize upd H9 hb (.dK (mergeK [] [((Sum.inr ("home" : Str) : Key), V.ref hq)])) = H11 at s711 h11 N11 nm11 ⊢
      have s0B : Same H H11 := (fr_new s03 fr7 fun a ha => by
        rcases List.mem_cons.mp ha with z | z
        · rw [z]; exact hnd0
        · rw [List.mem_singleton.mp z]; exact htl0).trans s711
      have hnm0 : H nm = none := by
        cases eh : H nm with
        | none => rfl
        | some o =>
          exfalso
          have := fr_new s03 fr7 (fun a ha => by
            rcases List.mem_cons.mp ha with z | z
            · rw [z]; exact hnd0
            · rw [List.mem_singleton.mp z]; exact htl0) _ _ eh
          rw [hnm] at this
          cases this
      refine ⟨_, _, _, _, _, _, ba, nm, hb, tv ++ [.ref t], 5, rfl, ⟨N11.n, N11.t, N11.te⟩, nnd, ntm, ⟨PAt.tk (tk_same s711) g4, ⟨kvs, nm11, Nat.le_trans hl9 hn5, hv9⟩, ⟨_, h11, by show 1 ≤ 5; decide, fun y i' hy => ?_⟩, by have := ge.cn; show 5 + pcnt e2.2.2 ≤ 1000; omega⟩, er7.ix (CR := 0) (ix_same s711), nem, s0B, hnm0, hh.no⟩
      have hy : (if y = "home" then some i else none) = some i' := hy
      by_cases ey : y = "home"
      · rw [if_pos ey] at hy
        cases hy
        refine ⟨.ref hq, ?_, by rw [ey]; rfl⟩
        refine (((h3.keep (fun _ _ z => z) fr7 tk7).fresh (A' := [nd, tl, nm]) fun a ha => ?_).keep (fun _ _ z => z) (fr_same s711) (tk_same s711))
        rcases List.mem_cons.mp ha with z | z
        · rw [z]; exact .inl List.mem_cons_self
        rcases List.mem_cons.mp z with z | z
        · rw [z]; exact .inl (List.mem_cons_of_mem _ List.mem_cons_self)
        · rw [List.mem_singleton.mp z]; exact .inr hnm
      · rw [if_neg ey] at hy
        cases hy
  | give z i =>
    obtain ⟨v, h1, h3⟩ := id hact
    obtain ⟨hq, rr, rfl, hh1, hh2⟩ := lhon_h h3
    refine ⟨_, rfl, itT rfl ⟨fun σ' H' => ∃ m', m' < muT c ∧ LoopInv es hd m e.1 ns bk nb ed nd tl H m' σ' H', fun _ _ z => z, ?_⟩⟩
    refine ⟨_, rfl, q1, _, _, _, rfl, rfl, SqT.of h1, at0, rfl, _, rfl, itT rfl ?_⟩
    refine ⟨_, rfl, q1, _, _, _, rfl, rfl, SqT.of h1, at2, hq, _, rfl, .inr (SqT.of hh1), rfl, _, rfl, ?_⟩
    cases i with
    | zero =>
      have hh2 : rr = [] := hh2
      subst hh2
      refine itT rfl ?_
      refine ⟨_, rfl, nd, _, rfl, DGet.k (k := Sum.inr "trail") N.n, _, rfl, q1, _, _, _, rfl, rfl, SqT.of h1, at1, sz (by show 2 ≤ 100000; decide), fun t ht => ?_⟩
      have s1 := same_new ht (.tup [.str "done", .int z])
      have N1 := N.same s1
      refine ⟨_, rfl, nd, _, rfl, DGet.k (k := Sum.inr "deepest") N1.n, _, rfl, nd, _, rfl, DGet.k (k := Sum.inr "made") N1.n, sz (by show 4 ≤ 100000; decide), fun qe hqe => ?_⟩
      have s2 := same_new hqe (.tup [.ref tl, .ref t, .int c.deepest, .int c.made])
      have N2 := N1.same s2
      have ht2 : upd (upd H3 t (.tup [.str "done", .int z])) qe (.tup [.ref tl, .ref t, .int c.deepest, .int c.made]) t = some (.tup [.str "done", .int z]) := s2 _ _ upd_same
      exact q _ qe tl tv (.ref t) (giveT c 0 z) (s03.trans (s1.trans s2)) upd_same N2.t N2.te ⟨t, rfl, ht2⟩ hh.tr ⟨hh.rc, fun y => by cases y⟩
    | succ k =>
      have hl4 : rr.length = 4 := hh2
      refine itF (decide_eq_false fun y => by
        have := V.int.inj y
        rw [List.length_cons, hl4] at this
        cases this) ?_
      refine ⟨_, rfl, q1, _, _, _, rfl, rfl, SqT.of h1, at0, rfl, _, rfl, itF rfl (iteF ?_)⟩
      refine ⟨MidL es m e.1 bk nb ed nd tl H (giveT c (k + 1) z), ?_, ?_⟩
      rotate_left
      · rintro σ' H4 ⟨o5, q2, o10, o11, o13, o14, pa, nm, hb, tv4, n, rfl, N4, nnd, ntm, R4, er4, nem, s04, hnm0, hXno⟩
        obtain ⟨kvs, d1, d2, d3⟩ := R4.h
        refine ⟨_, rfl, _, rfl, _, rfl, _, rfl, hb, kvs, rfl, .inl d1, fun hb2 hhb2 => ?_⟩
        have s5 := same_new hhb2 (.dK kvs)
        have N5 := N4.same s5
        have h5 : upd H4 hb2 (.dK kvs) hb2 = some (.dK kvs) := upd_same
        obtain ⟨kvw, w1, w2⟩ := R4.e
        have hap : Apart nd tl nm hb2 := ⟨ntl, nnd, ne_of_none N4.n hhb2, ntm, ne_of_none N4.t hhb2, ne_of_none w1 hhb2⟩
        have wfX := hh.wf.resolve_right fun z => z hXno
        have hb0 : H hb2 = none := s04.free hhb2
        refine ⟨es, hd, _, nd, tl, pa, nm, hb2, tv4, n, rfl, hap, N5, ⟨PAt.tk (tk_same s5) R4.p, ⟨kvw, s5 _ _ w1, w2⟩, ⟨kvs, h5, d2, fun y i hy => ?_⟩, R4.n⟩, hXno, wfX, E0, hh.sz, fun H6 q6 c6 tv6 act6 r6 no6 wf6 ea6 ac6 N6 A6 f6 tk6 => ?_⟩
        · obtain ⟨u, z1, z2⟩ := d3 y i hy
          refine ⟨u, (z1.fresh (A' := [nd, tl, nm, hb2]) fun a ha => ?_).keep (fun _ _ z => z) (fr_same s5) (tk_same s5), z2⟩
          rcases List.mem_cons.mp ha with z | z
          · rw [z]; exact .inl List.mem_cons_self
          rcases List.mem_cons.mp z with z | z
          · rw [z]; exact .inl (List.mem_cons_of_mem _ List.mem_cons_self)
          rcases List.mem_cons.mp z with z | z
          · rw [z]; exact .inl (List.mem_cons_of_mem _ (List.mem_cons_of_mem _ List.mem_cons_self))
          · rw [List.mem_singleton.mp z]; exact .inr hhb2
        have m6 : c6.most = m := by
          rw [reach_most r6, ← hh.mo]
          show (match c.tab[k]? with | none => c | some r => _ : CT).most = c.most
          split <;> rfl
        obtain ⟨hh6, mu6⟩ := head_next E0 hh wfX r6 no6 wf6 ea6 m6 ac6
        have hed : ed ∉ [nd, tl, nm, hb2] := by
          obtain ⟨kv, a1, _⟩ := er4
          rw [List.mem_cons, List.mem_cons, List.mem_cons, List.mem_singleton, not_or, not_or, not_or]
          exact ⟨hedn, ne_of a1 N4.t (fun z => by cases z), nem, ne_of_none a1 hhb2⟩
        refine ⟨muT c6, mu6, c6, act6, q6, tv6, _, _, _, _, _, _, _, _, rfl, rfl, hh6, N6, A6, er_fr (er4.ix (CR := 0) (ix_same s5)) hed f6 tk6, fr_new (s04.trans s5) f6 fun a ha => ?_⟩
        rcases List.mem_cons.mp ha with z | z
        · rw [z]; exact hnd0
        rcases List.mem_cons.mp z with z | z
        · rw [z]; exact htl0
        rcases List.mem_cons.mp z with z | z
        · rw [z]; exact hnm0
        · rw [List.mem_singleton.mp z]; exact hb0
      refine ⟨_, rfl, q1, _, _, _, rfl, rfl, SqT.of h1, at0, rfl, _, rfl, itF rfl ?_⟩
      cases h3 with
      | mk _ r _ tb nb1 hb1 n kvn kvs vf g1 g2 g3 g4 g5 g6 g7 g8 g9 g10 g11 g12 g13 =>
        have eG : giveT c (k + 1) z = { c with part := r.T, env := setE r.env r.x z, hs := r.hs, lim := r.wt - pcnt r.T } := by
          show (match c.tab[k]? with | none => c | some r => _) = _
          rw [g1]
        rw [eG]
        refine ⟨_, rfl, q1, _, _, _, rfl, rfl, SqT.of h1, at2, hq, _, rfl, SqT.of g2, rfl, _, _, rfl, _, _, rfl, _, _, rfl, _, _, rfl, _, _, rfl, rfl, ?_⟩
        refine ⟨_, rfl, nb1, kvn, rfl, .inl g6, fun nm hnm => ?_⟩
        have s4 := same_new hnm (.dK kvn)
        have N4 := N.same s4
        have w4 : upd H3 nm (.dK kvn) nm = some (.dK kvn) := upd_same
        have nnd : nd ≠ nm := ne_of_none N.n hnm
        have ntm : tl ≠ nm := ne_of_none N.t hnm
        have nhm : hb1 ≠ nm := ne_of_none g9 hnm
        have nem : ed ≠ nm := by
          obtain ⟨kv, a, _⟩ := er
          exact ne_of_none a hnm
        refine ⟨_, rfl, q1, _, _, _, rfl, rfl, SqT.of (s4 _ _ h1), at1, _, rfl, _, rfl, nm, _, rfl, DPut.k (k := Sum.inr r.x) w4 (big (by omega)), ?_⟩
        rw [upd_upd]
        have s5 := same_new hnm (.dK (putK kvn (Sum.inr r.x) (.int z)))
        have N5 := N.same s5
        refine ⟨_, _, _, _, _, _, tb, nm, hb1, tv, n + 1, rfl, ⟨N5.n, N5.t, N5.te⟩, nnd, ntm, ⟨PAt.tk (tk_same s5) g3, ⟨_, upd_same, Nat.le_trans putK_len (by omega), env_put g8⟩, ⟨kvs, s5 _ _ g9, by omega, fun y i hy => ⟨vf y, ?_, g12 y i hy⟩⟩, by show n + 1 + pcnt r.T ≤ 1000; omega⟩, er.ix (CR := 0) (ix_same s5), nem, s03.trans s5, s03.free hnm, hh.no⟩
        refine ((g13 y i hy).fresh (A' := [nd, tl, nm]) fun a ha => ?_).keep (fun _ _ z => z) (fr_same s5) (tk_same s5)
        rcases List.mem_cons.mp ha with z | z
        · rw [z]; exact .inl List.mem_cons_self
        rcases List.mem_cons.mp z with z | z
        · rw [z]; exact .inl (List.mem_cons_of_mem _ List.mem_cons_self)
        · rw [List.mem_singleton.mp z]; exact .inr hnm
end
end KB

namespace KB
open PySem L2

/-! ### a part and what is left of it, hand-ons told apart -/
abbrev Sg := Str → Option Str
def upS (s : Sg) (j : Str) (v : Option Str) : Sg := fun z => if z = j then v else s z
inductive SlR : Sg → Pt → Pt → Prop
  | give {s : Sg} {j j' : Str} {t : Tm} : s j = some j' → SlR s (.give j t) (.give j' t)
  | ask {s : Sg} {f : Str} {ts : List Tm} {j j' : Str} : s j = some j' → SlR s (.ask f ts j) (.ask f ts j')
  | tell {s : Sg} {x : Str} {t : Tm} {p p' : Pt} : SlR s p p' → SlR s (.tell x t p) (.tell x t p')
  | lett {s : Sg} {x : Str} {t : Tm} {p p' : Pt} : SlR s p p' → SlR s (.lett x t p) (.lett x t p')
  | iff {s : Sg} {t : Tm} {p q p' q' : Pt} : SlR s p p' → SlR s q q' → SlR s (.iff t p q) (.iff t p' q')
  | post {s : Sg} {j x : Str} {p q p' q' : Pt} : j ≠ "home" → SlR s p p' → SlR (upS s j (some j)) q q' → (∀ z, z ≠ j → s z ≠ some j) → SlR s (.post j x p q) (.post j x p' q')
  | pass {s : Sg} {j x k : Str} {t : Tm} {p q q' : Pt} : j ≠ "home" → SlR s p (.give k t) → passed (.give k t) x = true → SlR (upS s j (some k)) q q' → SlR s (.post j x p q) q'
  | free {s : Sg} {j x : Str} {p q q' : Pt} : j ≠ "home" → SlR (upS s j none) q q' → SlR s (.post j x p q) q'
theorem SlR.to {s s' : Sg} {p q : Pt} (h : SlR s p q) (e : s = s') : SlR s' p q := e ▸ h
theorem SlR.ren {j k : Str} {s : Sg} {p q : Pt} (h : SlR s p q) : j ∉ jP q → k ∉ jP q → SlR (fun z => (s z).map (hnW j k)) p (renP j k q) := by
  induction h with
  | give h => exact fun _ _ => .give (by rw [h]; rfl)
  | ask h => exact fun _ _ => .ask (by rw [h]; rfl)
  | tell _ ih => exact fun a b => .tell (ih a b)
  | lett _ ih => exact fun a b => .lett (ih a b)
  | iff _ _ ih1 ih2 => exact fun a b => .iff (ih1 (fun z => a (List.mem_append_left _ z)) fun z => b (List.mem_append_left _ z)) (ih2 (fun z => a (List.mem_append_right _ z)) fun z => b (List.mem_append_right _ z))
  | @post s i x p q p' q' hn _ _ nc ih1 ih2 =>
    intro a b
    have ai : i ≠ j := fun z => a (by rw [← z]; exact List.mem_cons_self)
    have bi : i ≠ k := fun z => b (by rw [← z]; exact List.mem_cons_self)
    refine .post hn (ih1 (fun z => a (List.mem_cons_of_mem _ (List.mem_append_left _ z))) fun z => b (List.mem_cons_of_mem _ (List.mem_append_left _ z)))
      ((ih2 (fun z => a (List.mem_cons_of_mem _ (List.mem_append_right _ z))) fun z => b (List.mem_cons_of_mem _ (List.mem_append_right _ z))).to ?_) fun z hz e => ?_
    · funext z
      show ((if z = i then some i else s z).map (hnW j k)) = if z = i then some i else (s z).map (hnW j k)
      by_cases c : z = i
      · rw [if_pos c, if_pos c]
        show some (hnW j k i) = some i
        rw [show hnW j k i = i from if_neg ai]
      · rw [if_neg c, if_neg c]
    · obtain ⟨y, hy, e2⟩ := Option.map_eq_some_iff.mp e
      unfold hnW at e2
      split at e2
      · exact bi e2.symm
      · rw [e2] at hy
        exact nc z hz hy
  | @pass s i x k0 t p q q' hn _ hp _ ih0 ih =>
    intro a b
    refine .pass hn (ih0 (fun z => nomatch z) fun z => nomatch z) hp ((ih a b).to ?_)
    funext z
    show ((if z = i then some k0 else s z).map (hnW j k)) = if z = i then some (hnW j k k0) else (s z).map (hnW j k)
    by_cases c : z = i
    · rw [if_pos c, if_pos c]; rfl
    · rw [if_neg c, if_neg c]
  | @free s i x p q q' hn _ ih =>
    intro a b
    refine .free hn ((ih a b).to ?_)
    funext z
    show ((if z = i then none else s z).map (hnW j k)) = if z = i then none else (s z).map (hnW j k)
    by_cases c : z = i
    · rw [if_pos c, if_pos c]; rfl
    · rw [if_neg c, if_neg c]
def dropS (s : Sg) (j : Str) : Sg := fun z => if s z = some j then none else s z
theorem dropS_up {s : Sg} {j i : Str} {v : Option Str} (h : v ≠ some j) : dropS (upS s i v) j = upS (dropS s j) i v := by
  funext z
  show (if (if z = i then v else s z) = some j then none else if z = i then v else s z) = if z = i then v else if s z = some j then none else s z
  by_cases c : z = i
  · rw [if_pos c, if_pos c, if_neg h]
  · rw [if_neg c, if_neg c]
theorem SlR.drop {j : Str} {s : Sg} {p q : Pt} (h : SlR s p q) : j ∉ endsP q → j ∉ jP q → SlR (dropS s j) p q := by
  have one : ∀ {s : Sg} {i i' : Str}, s i = some i' → i' ≠ j → dropS s j i = some i' := fun {s i i'} e n => by
    show (if s i = some j then none else s i) = some i'
    rw [e, if_neg (fun z => n (Option.some.inj z))]
  induction h with
  | give h => exact fun a _ => .give (one h fun z => a (by rw [z]; exact List.mem_cons_self))
  | ask h => exact fun a _ => .ask (one h fun z => a (by rw [z]; exact List.mem_cons_self))
  | tell _ ih => exact fun a b => .tell (ih (fun z => a (List.mem_append_left _ z)) b)
  | lett _ ih => exact fun a b => .lett (ih (fun z => a (List.mem_append_left _ z)) b)
  | iff _ _ ih1 ih2 => exact fun a b => .iff (ih1 (fun z => a (List.mem_append_left _ z)) fun z => b (List.mem_append_left _ z)) (ih2 (fun z => a (List.mem_append_right _ (List.mem_append_left _ z))) fun z => b (List.mem_append_right _ z))
  | @post s i x p q p' q' hn _ _ nc ih1 ih2 =>
    intro a b
    have ai : i ≠ j := fun z => b (by rw [← z]; exact List.mem_cons_self)
    refine .post hn (ih1 (fun z => a (List.mem_append_left _ z)) fun z => b (List.mem_cons_of_mem _ (List.mem_append_left _ z)))
      ((ih2 (fun z => a (List.mem_append_right _ (List.mem_append_left _ z))) fun z => b (List.mem_cons_of_mem _ (List.mem_append_right _ z))).to (dropS_up fun z => ai (Option.some.inj z))) fun z hz e => ?_
    have e' : (if s z = some j then none else s z) = some i := e
    split at e'
    · cases e'
    · exact nc z hz e'
  | @pass s i x k0 t p q q' hn h0 hp _ ih0 ih =>
    intro a b
    by_cases c : k0 = j
    · refine .free hn ((ih a b).to ?_)
      funext z
      show (if (if z = i then some k0 else s z) = some j then none else if z = i then some k0 else s z) = if z = i then none else if s z = some j then none else s z
      by_cases c2 : z = i
      · rw [if_pos c2, if_pos c2, if_pos (congrArg some c)]
      · rw [if_neg c2, if_neg c2]
    · exact .pass hn (ih0 (fun z => c (List.mem_singleton.mp z).symm) fun z => nomatch z) hp ((ih a b).to (dropS_up fun z => c (Option.some.inj z)))
  | @free s i x p q q' hn _ ih =>
    intro a b
    exact .free hn ((ih a b).to (dropS_up fun z => nomatch z))
theorem up_some {j : Str} : upS some j (some j) = some := by
  funext z
  show (if z = j then some j else some z) = some z
  split
  · rename_i h; rw [h]
  · rfl
theorem ren_some {j k : Str} : (fun z : Str => (some z).map (hnW j k)) = upS some j (some k) := by
  funext z
  show some (hnW j k z) = if z = j then some k else some z
  unfold hnW
  split <;> rfl
theorem drop_some {j : Str} : dropS some j = upS some j none := by
  funext z
  show (if some z = some j then none else some z) = if z = j then none else some z
  by_cases c : z = j
  · rw [if_pos c, if_pos (congrArg some c)]
  · rw [if_neg c, if_neg (fun h => c (Option.some.inj h))]
/-- what slim leaves of a part -/
theorem slim_rel {hd : Str → Option Nat} : ∀ {p : Pt} {xs hs : List Str}, okP hd p xs hs → (jP p).Nodup → ("home" : Str) ∉ jP p → (∀ i ∈ hs, i ∉ jP p) → SlR some p (slimP p)
  | .give _ _, _, _, _, _, _, _ => .give rfl
  | .ask _ _ _, _, _, _, _, _, _ => .ask rfl
  | .tell _ _ p, _, _, h, nd, hm, dj => .tell (slim_rel (p := p) h.2.2 nd hm dj)
  | .lett _ _ p, _, _, h, nd, hm, dj => .lett (slim_rel (p := p) h.2.2 nd hm dj)
  | .iff _ p q, _, _, h, nd, hm, dj => .iff (slim_rel h.2.1 (List.nodup_append.mp nd).1 (fun z => hm (List.mem_append_left _ z)) fun i hi z => dj i hi (List.mem_append_left _ z))
      (slim_rel h.2.2 (List.nodup_append.mp nd).2.1 (fun z => hm (List.mem_append_right _ z)) fun i hi z => dj i hi (List.mem_append_right _ z))
  | .post j x p q, xs, hs, h, nd, hm, dj => by
    have nd' : (j :: (jP p ++ jP q)).Nodup := nd
    obtain ⟨n1, n2⟩ := List.nodup_cons.mp nd'
    have hj : j ≠ "home" := fun z => hm (by rw [← z]; exact List.mem_cons_self)
    have jq : j ∉ jP q := fun z => n1 (List.mem_append_right _ z)
    have jq' : j ∉ jP (slimP q) := fun z => jq ((sub_slim q).2.subset z)
    have ip := slim_rel h.2.2.1 (List.nodup_append.mp n2).1 (fun z => hm (List.mem_cons_of_mem _ (List.mem_append_left _ z))) fun i hi z => dj i hi (List.mem_cons_of_mem _ (List.mem_append_left _ z))
    have iq := slim_rel h.2.2.2 (List.nodup_append.mp n2).2.1 (fun z => hm (List.mem_cons_of_mem _ (List.mem_append_right _ z))) fun i hi z => by
      rcases List.mem_append.mp hi with y | y
      · exact dj i y (List.mem_cons_of_mem _ (List.mem_append_right _ z))
      · rw [List.mem_singleton.mp y] at z
        exact jq z
    have op := okP_slim h.2.2.1
    show SlR some (.post j x p q) (slim1 (.post j x (slimP p) (slimP q)))
    have free : handed j (slimP q) ≠ true → SlR some (.post j x p q) (slimP q) := fun hh => by
      rw [handed_ends] at hh
      exact .free hj ((iq.drop (fun z => hh (decide_eq_true z)) jq').to drop_some)
    have keep : SlR some (.post j x p q) (.post j x (slimP p) (slimP q)) := .post hj ip (iq.to up_some.symm) fun z hz e => hz (Option.some.inj e)
    generalize slimP p = p' at ip op keep
    have rest : SlR some (.post j x p q) (if handed j (slimP q) = true then .post j x p' (slimP q) else slimP q) := by
      split
      · exact keep
      · exact free (by assumption)
    cases p' with
    | give k t =>
      by_cases c : passed (.give k t) x = true
      · rw [show slim1 (.post j x (.give k t) (slimP q)) = renP j k (slimP q) from if_pos c]
        have kq : k ∉ jP (slimP q) := fun z => dj k op.1 (List.mem_cons_of_mem _ (List.mem_append_right _ ((sub_slim q).2.subset z)))
        exact .pass hj ip c ((iq.ren jq' kq).to ren_some)
      · rw [show slim1 (.post j x (.give k t) (slimP q)) = if handed j (slimP q) = true then .post j x (.give k t) (slimP q) else slimP q from if_neg c]
        exact rest
    | _ => exact rest
theorem slim_relE {hF : Str → Option Nat} {e : TEr} (h : GdTE hF e) : SlR some e.2.2 (slimP e.2.2) :=
  have hm : ("home" : Str) ∉ jP e.2.2 := fun z => absurd ((okP_words h.ok).2 _ z) (by decide +kernel)
  slim_rel h.ok h.uj hm fun i hi => by rw [List.mem_singleton.mp hi]; exact hm
theorem rel_give {s : Sg} {p q : Pt} (h : SlR s p q) : ∀ {k : Str} {t : Tm}, q = .give k t → ∃ z, s z = some k := by
  induction h with
  | give h => intro k t e; cases e; exact ⟨_, h⟩
  | ask => intro k t e; cases e
  | tell => intro k t e; cases e
  | lett => intro k t e; cases e
  | iff => intro k t e; cases e
  | post => intro k t e; cases e
  | @pass s i x k0 t0 p q q' hn h0 hp _ ih0 ih =>
    intro k t e
    obtain ⟨z, hz⟩ := ih e
    have hz' : (if z = i then some k0 else s z) = some k := hz
    split at hz'
    · obtain ⟨y, hy⟩ := ih0 rfl
      exact ⟨y, hy.trans hz'⟩
    · exact ⟨z, hz'⟩
  | @free s i x p q q' hn _ ih =>
    intro k t e
    obtain ⟨z, hz⟩ := ih e
    have hz' : (if z = i then none else s z) = some k := hz
    split at hz'
    · cases hz'
    · exact ⟨z, hz'⟩
theorem passed_val {k x : Str} {t : Tm} (h : passed (.give k t) x = true) (env : Env) (v : Int) : evS (setE env x v) t = v := by
  have h' : PyData.eqv (pd t) (.tuple [.str "name", .str x]) = true := h
  cases t with
  | mk hh n kk =>
    cases hh with
    | nam y =>
      have e : PyData.eqv (.tuple [.str "name", .str y]) (.tuple [.str "name", .str x]) = true := h'
      have e2 : y = x := by
        simpa [PyData.eqv, PyData.eqvAll] using e
      show (if y = x then some v else env y).getD 0 = v
      rw [if_pos e2]
      rfl
    | num z => exact absurd h' (by show ¬ PyData.eqv (.tuple [.str "number", .int z]) (.tuple [.str "name", .str x]) = true; simp [PyData.eqv, PyData.eqvAll])
    | _ =>
      exfalso
      simp [pd, pdH, PyData.eqv, PyData.eqvAll] at h' <;> exact absurd h'.1 (by decide)
end KB

namespace KB
open PySem L2

/-! ### hand-ons beside hand-ons, how high each is -/
inductive Hr (tab tab' : List HR) : Nat → Int → Nat → Int → Prop
  | fin : Hr tab tab' 0 0 0 0
  | made {k k' : Nat} {r r' : HR} {s : Sg} {A B : Str → Int} : tab[k]? = some r → tab'[k']? = some r' → r'.x = r.x → r'.env = r.env → SlR s r.T r'.T → s "home" = some "home" →
      (∀ z z', s z = some z' → Hr tab tab' (hAt r.hs z) (A z) (hAt r'.hs z') (B z')) → (∀ z z', s z = some z' → A z ≤ r.h) → r.h = A "home" + 1 → r'.h = B "home" + 1 → Hr tab tab' (k + 1) r.h (k' + 1) r'.h
  | pass {k : Nat} {r : HR} {s : Sg} {A B : Str → Int} {hs' : HsT} {j : Str} {t : Tm} {z0 : Str} : tab[k]? = some r → SlR s r.T (.give j t) → passed (.give j t) r.x = true → s "home" = some "home" → s z0 = some j →
      (∀ z z', s z = some z' → Hr tab tab' (hAt r.hs z) (A z) (hAt hs' z') (B z')) → (∀ z z', s z = some z' → A z ≤ r.h) → r.h = A "home" + 1 → Hr tab tab' (k + 1) r.h (hAt hs' j) (B j)
theorem hi_rec {tab : List HR} {k : Nat} {r : HR} (h : tab[k]? = some r) : hiAt tab (k + 1) = r.h := by
  show (tab[k]?.map (·.h)).getD 0 = r.h
  rw [h]
  rfl
theorem Hr.facts {tab tab' : List HR} {i i' : Nat} {a b : Int} (h : Hr tab tab' i a i' b) : b ≤ a ∧ 0 ≤ a ∧ hiAt tab i = a ∧ hiAt tab' i' = b := by
  induction h with
  | fin => exact ⟨Int.le_refl _, Int.le_refl _, rfl, rfl⟩
  | @made k k' r r' s A B h1 h2 _ _ _ hh _ ht e1 e2 ih =>
    obtain ⟨x1, x2, _, _⟩ := ih _ _ hh
    exact ⟨by omega, by omega, hi_rec h1, hi_rec h2⟩
  | @pass k r s A B hs' j t z0 h1 _ _ hh h0 _ ht e1 ih =>
    obtain ⟨x1, x2, _, _⟩ := ih _ _ hh
    obtain ⟨y1, y2, _, y4⟩ := ih _ _ h0
    have := ht _ _ h0
    exact ⟨by omega, by omega, hi_rec h1, y4⟩
theorem Hr.app {tab tab' tb tb' : List HR} (e : ∀ (k : Nat) (r : HR), tab[k]? = some r → tb[k]? = some r) (e' : ∀ (k : Nat) (r : HR), tab'[k]? = some r → tb'[k]? = some r) {i i' : Nat} {a b : Int} (h : Hr tab tab' i a i' b) : Hr tb tb' i a i' b := by
  induction h with
  | fin => exact .fin
  | made h1 h2 h3 h4 h5 h6 _ h8 h9 h10 ih => exact .made (e _ _ h1) (e' _ _ h2) h3 h4 h5 h6 ih h8 h9 h10
  | pass h1 h2 h3 h4 h5 _ h7 h8 ih => exact .pass (e _ _ h1) h2 h3 h4 h5 ih h7 h8
/-- what the other machine has at hand: this part with these, or a give of the same to the same -/
def Brd (c' : CT) (q : Pt) (env : Env) (hs : HsT) : Prop := (c'.part = q ∧ c'.env = env ∧ c'.hs = hs) ∨ ∃ j' t' j t, c'.part = .give j' t' ∧ q = .give j t ∧ evS c'.env t' = evS env t ∧ hAt c'.hs j' = hAt hs j
structure SimR (c c' : CT) : Prop where
  no : c.fin = .no
  no' : c'.fin = .no
  mo : c'.most = c.most
  as_ : c'.asked = c.asked
  tr : c'.trail = c.trail
  dp : c'.deepest ≤ c.deepest
  md : c'.made ≤ c.made
  st : ∃ (s : Sg) (q : Pt) (hs' : HsT) (A B : Str → Int), SlR s c.part q ∧ s "home" = some "home" ∧ (∀ z z', s z = some z' → Hr c.tab c'.tab (hAt c.hs z) (A z) (hAt hs' z') (B z')) ∧ (∀ z z', s z = some z' → A z ≤ A "home" + 1) ∧ Brd c' q c.env hs'
structure SameR (c c' : CT) : Prop where
  tr : c'.trail = c.trail
  fin : c'.fin = c.fin
  dp : c'.deepest ≤ c.deepest
  md : c'.made ≤ c.made
theorem find_slim (es : List TEr) (f : Str) : (es.map slimE).find? (fun e => decide (e.1 = f)) = (es.find? (fun e => decide (e.1 = f))).map slimE := by
  induction es with
  | nil => rfl
  | cons e r ih =>
    rw [List.map_cons, List.find?_cons, List.find?_cons]
    show (match decide (e.1 = f) with | true => some (slimE e) | false => (r.map slimE).find? _) = _
    cases h : decide (e.1 = f) with
    | true => rfl
    | false => exact ih
theorem ask_sim {es : List TEr} (hA : ∀ e ∈ es, SlR some e.2.2 (slimP e.2.2)) {c c' : CT} {f : Str} {ns : List Int} {i i' : Nat} {a b : Int} (no : c.fin = .no) (no' : c'.fin = .no) (mo : c'.most = c.most) (as_ : c'.asked = c.asked) (tr : c'.trail = c.trail) (dp : c'.deepest ≤ c.deepest) (md : c'.made ≤ c.made)
    (h : Hr c.tab c'.tab i a i' b) : SimR (askT es c f ns i) (askT (es.map slimE) c' f ns i') ∨ ((askT es c f ns i).fin ≠ .no ∧ (askT (es.map slimE) c' f ns i').fin ≠ .no ∧ SameR (askT es c f ns i) (askT (es.map slimE) c' f ns i')) ∨ (askT es c f ns i = c ∧ askT (es.map slimE) c' f ns i' = c') := by
  obtain ⟨x1, x2, x3, x4⟩ := h.facts
  unfold askT
  rw [as_, mo, find_slim]
  by_cases e : c.asked = c.most
  · rw [if_pos e, if_pos e]
    exact .inr (.inl ⟨fun z => (by cases z), fun z => (by cases z), ⟨tr, rfl, dp, md⟩⟩)
  · rw [if_neg e, if_neg e]
    cases hf : es.find? (fun e => decide (e.1 = f)) with
    | none => exact .inr (.inr ⟨rfl, rfl⟩)
    | some er =>
      refine .inl ⟨no, no', rfl, by show c.asked + 1 = c.asked + 1; rfl, by show c'.trail ++ _ = c.trail ++ _; rw [tr], ?_, md, ?_⟩
      · show max c'.deepest (hiAt c'.tab i') ≤ max c.deepest (hiAt c.tab i)
        omega
      · refine ⟨some, slimP er.2.2, _, fun z => if z = "home" then a else 0, fun z => if z = "home" then b else 0, hA er (List.mem_of_find?_eq_some hf), rfl, fun z z' hz => ?_, fun z z' _ => ?_, .inl ⟨rfl, rfl, rfl⟩⟩
        · cases hz
          show Hr c.tab c'.tab (((if z = "home" then some i else none).getD 0)) _ ((if z = "home" then some i' else none).getD 0) _
          by_cases c1 : z = "home"
          · rw [if_pos c1, if_pos c1]
            show Hr c.tab c'.tab i (if z = "home" then a else 0) i' (if z = "home" then b else 0)
            rw [if_pos c1, if_pos c1]
            exact h
          · rw [if_neg c1, if_neg c1]
            show Hr c.tab c'.tab 0 (if z = "home" then a else 0) 0 (if z = "home" then b else 0)
            rw [if_neg c1, if_neg c1]
            exact .fin
        · show (if z = "home" then a else 0) ≤ (if ("home" : Str) = "home" then a else 0) + 1
          rw [if_pos rfl]
          split <;> omega
/-! ### one step -/
theorem st_give {es : List TEr} {c : CT} {j : Str} {t : Tm} (h : c.part = .give j t) : stepT es c = match hAt c.hs j with
    | 0 => { c with fin := .done (evS c.env t) }
    | k + 1 => match c.tab[k]? with
      | none => c
      | some r => { c with part := r.T, env := setE r.env r.x (evS c.env t), hs := r.hs, lim := r.wt - pcnt r.T } := by
  obtain ⟨x1, x2, x3, x4, x5, x6, x7, x8, x9, x10, x11⟩ := c
  dsimp only at h
  subst h
  rfl
theorem st_ask {es : List TEr} {c : CT} {f j : Str} {ts : List Tm} (h : c.part = .ask f ts j) : stepT es c = askT es c f (ts.map (evS c.env)) (hAt c.hs j) := by
  obtain ⟨x1, x2, x3, x4, x5, x6, x7, x8, x9, x10, x11⟩ := c
  dsimp only at h
  subst h
  rfl
theorem st_tell {es : List TEr} {c : CT} {x : Str} {t : Tm} {p : Pt} (h : c.part = .tell x t p) : stepT es c = { c with trail := c.trail ++ [.tell (evS c.env t)], env := setE c.env x (evS c.env t), part := p } := by
  obtain ⟨x1, x2, x3, x4, x5, x6, x7, x8, x9, x10, x11⟩ := c
  dsimp only at h
  subst h
  rfl
theorem st_let {es : List TEr} {c : CT} {x : Str} {t : Tm} {p : Pt} (h : c.part = .lett x t p) : stepT es c = { c with env := setE c.env x (evS c.env t), part := p } := by
  obtain ⟨x1, x2, x3, x4, x5, x6, x7, x8, x9, x10, x11⟩ := c
  dsimp only at h
  subst h
  rfl
theorem st_iff {es : List TEr} {c : CT} {t : Tm} {p q : Pt} (h : c.part = .iff t p q) : stepT es c = { c with part := if evS c.env t = 0 then q else p } := by
  obtain ⟨x1, x2, x3, x4, x5, x6, x7, x8, x9, x10, x11⟩ := c
  dsimp only at h
  subst h
  rfl
theorem st_post {es : List TEr} {c : CT} {j x : Str} {p q : Pt} (h : c.part = .post j x p q) : stepT es c = { c with made := c.made + 1, tab := c.tab ++ [⟨x, p, c.env, c.hs, hiAt c.tab (hAt c.hs "home") + 1, pcnt p + c.lim⟩], hs := setH c.hs j (c.tab.length + 1), part := q, lim := pcnt p + c.lim } := by
  obtain ⟨x1, x2, x3, x4, x5, x6, x7, x8, x9, x10, x11⟩ := c
  dsimp only at h
  subst h
  rfl
theorem tab_new {tab : List HR} {r : HR} : (tab ++ [r])[tab.length]? = some r := by simp
theorem tab_old {tab : List HR} {r : HR} : ∀ (k : Nat) (s : HR), tab[k]? = some s → (tab ++ [r])[k]? = some s := fun k s h => by
  rw [List.getElem?_append_left (List.getElem?_eq_some_iff.mp h).1]
  exact h
theorem set_at {hs : HsT} {j : Str} {i : Nat} : hAt (setH hs j i) j = i := by
  show ((if j = j then some i else hs j).getD 0) = i
  rw [if_pos rfl]
  rfl
theorem set_ne {hs : HsT} {j z : Str} {i : Nat} (h : z ≠ j) : hAt (setH hs j i) z = hAt hs z := by
  show ((if z = j then some i else hs z).getD 0) = _
  rw [if_neg h]
  rfl
theorem up_home {s : Sg} {j : Str} {v : Option Str} (hj : j ≠ "home") (h : s "home" = some "home") : upS s j v "home" = some "home" := by
  show (if ("home" : Str) = j then v else s "home") = _
  rw [if_neg (Ne.symm hj)]
  exact h
def bumpA (A : Str → Int) (j : Str) : Str → Int := fun z => if z = j then A "home" + 1 else A z
theorem bump_home {A : Str → Int} {j : Str} (hj : j ≠ "home") : bumpA A j "home" = A "home" := if_neg (Ne.symm hj)
theorem bump_le {s : Sg} {A : Str → Int} {j : Str} {v : Option Str} (hj : j ≠ "home") (h : ∀ z z', s z = some z' → A z ≤ A "home" + 1) : ∀ z z', upS s j v z = some z' → bumpA A j z ≤ bumpA A j "home" + 1 := fun z z' hz => by
  rw [bump_home hj]
  have hz' : (if z = j then v else s z) = some z' := hz
  show (if z = j then A "home" + 1 else A z) ≤ _
  split
  · exact Int.le_refl _
  · rename_i n
    rw [if_neg n] at hz'
    exact h z z' hz'
/-- a hand-on more on the left alone -/
theorem left_post {c c' : CT} {s : Sg} {j x : Str} {p : Pt} {hs' : HsT} {A B : Str → Int} {v : Option Str} (hj : j ≠ "home") (sh : s "home" = some "home") (hh : ∀ z z', s z = some z' → Hr c.tab c'.tab (hAt c.hs z) (A z) (hAt hs' z') (B z'))
    (hv : ∀ z', v = some z' → ∀ r : HR, r.x = x → r.T = p → r.hs = c.hs → r.h = A "home" + 1 → Hr (c.tab ++ [r]) c'.tab (c.tab.length + 1) (A "home" + 1) (hAt hs' z') (B z')) :
    ∀ z z', upS s j v z = some z' → Hr (c.tab ++ [⟨x, p, c.env, c.hs, hiAt c.tab (hAt c.hs "home") + 1, pcnt p + c.lim⟩]) c'.tab (hAt (setH c.hs j (c.tab.length + 1)) z) (bumpA A j z) (hAt hs' z') (B z') := fun z z' hz => by
  have hz' : (if z = j then v else s z) = some z' := hz
  have hm := (hh _ _ sh).facts.2.2.1
  by_cases e : z = j
  · rw [if_pos e] at hz'
    subst e
    rw [set_at, show bumpA A z z = A "home" + 1 from if_pos rfl]
    exact hv z' hz' _ rfl rfl rfl (by show hiAt c.tab (hAt c.hs "home") + 1 = _; rw [hm])
  · rw [if_neg e] at hz'
    rw [set_ne e, show bumpA A j z = A z from if_neg e]
    exact (hh z z' hz').app tab_old (fun _ _ h => h)
theorem step_sim {es : List TEr} (hA : ∀ e ∈ es, SlR some e.2.2 (slimP e.2.2)) {c c' : CT} (R : SimR c c') :
    SimR (stepT es c) c' ∨ SimR (stepT es c) (stepT (es.map slimE) c') ∨ ((stepT es c).fin ≠ .no ∧ (stepT (es.map slimE) c').fin ≠ .no ∧ SameR (stepT es c) (stepT (es.map slimE) c')) := by
  obtain ⟨no, no', mo, as_, tr, dp, md, s, qq, hs', A, B, sl, sh, hh, hb, br⟩ := R
  generalize hp : c.part = p at sl
  cases sl with
  | @give _ j j' t hj =>
    obtain ⟨j2, t2, e1, e2, e3⟩ : ∃ j2 t2, c'.part = .give j2 t2 ∧ evS c'.env t2 = evS c.env t ∧ hAt c'.hs j2 = hAt hs' j' := by
      rcases br with ⟨b1, b2, b3⟩ | ⟨j2, t2, j3, t3, b1, b2, b3, b4⟩
      · exact ⟨j', t, b1, by rw [b2], by rw [b3]⟩
      · cases b2
        exact ⟨j2, t2, b1, b3, b4⟩
    have hr := hh _ _ hj
    rw [← e3] at hr
    rw [st_give hp, st_give e1, e2]
    generalize hAt c.hs j = i at hr
    generalize A j = a at hr
    generalize hi' : hAt c'.hs j2 = i' at hr
    generalize B j' = b at hr
    cases hr with
    | fin => exact .inr (.inr ⟨fun z => (by cases z), fun z => (by cases z), ⟨tr, rfl, dp, md⟩⟩)
    | @made k k' r r' s2 A2 B2 h1 h2 h3 h4 h5 h6 h7 h8 h9 h10 =>
      refine .inr (.inl ?_)
      dsimp only
      rw [h1, h2]
      refine ⟨no, no', mo, as_, tr, dp, md, s2, r'.T, r'.hs, A2, B2, h5, h6, h7, fun z z' hz => by have := h8 z z' hz; omega, .inl ⟨rfl, ?_, rfl⟩⟩
      show setE r'.env r'.x _ = setE r.env r.x _
      rw [h3, h4]
    | @pass k r s2 A2 B2 hs2 j3 t3 z0 h1 h2 h3 h4 h5 h6 h7 h8 =>
      refine .inl ?_
      dsimp only
      rw [h1]
      refine ⟨no, no', mo, as_, tr, dp, md, s2, .give j3 t3, hs2, A2, B2, h2, h4, h6, fun z z' hz => by have := h7 z z' hz; omega, .inr ⟨j2, t2, j3, t3, e1, rfl, ?_, hi'⟩⟩
      rw [e2]
      exact (passed_val h3 r.env (evS c.env t)).symm
  | @ask _ f ts j j' hj =>
    have e : c'.part = .ask f ts j' ∧ c'.env = c.env ∧ c'.hs = hs' := by
      rcases br with b | ⟨_, _, _, _, _, b2, _⟩
      · exact b
      · cases b2
    obtain ⟨e1, e2, e3⟩ := e
    rw [st_ask hp, st_ask e1, e2, e3]
    rcases ask_sim hA no no' mo as_ tr dp md (hh _ _ hj) (f := f) (ns := ts.map (evS c.env)) with h | h | ⟨h1, h2⟩
    · exact .inr (.inl h)
    · exact .inr (.inr h)
    · rw [h1, h2]
      exact .inr (.inl ⟨no, no', mo, as_, tr, dp, md, s, .ask f ts j', hs', A, B, by rw [hp]; exact .ask hj, sh, hh, hb, .inl ⟨e1, e2, e3⟩⟩)
  | @tell _ x t p p' h =>
    have e : c'.part = .tell x t p' ∧ c'.env = c.env ∧ c'.hs = hs' := by
      rcases br with b | ⟨_, _, _, _, _, b2, _⟩
      · exact b
      · cases b2
    obtain ⟨e1, e2, e3⟩ := e
    rw [st_tell hp, st_tell e1, e2]
    exact .inr (.inl ⟨no, no', mo, as_, by show c'.trail ++ _ = c.trail ++ _; rw [tr], dp, md, s, p', hs', A, B, h, sh, hh, hb, .inl ⟨rfl, rfl, e3⟩⟩)
  | @lett _ x t p p' h =>
    have e : c'.part = .lett x t p' ∧ c'.env = c.env ∧ c'.hs = hs' := by
      rcases br with b | ⟨_, _, _, _, _, b2, _⟩
      · exact b
      · cases b2
    obtain ⟨e1, e2, e3⟩ := e
    rw [st_let hp, st_let e1, e2]
    exact .inr (.inl ⟨no, no', mo, as_, tr, dp, md, s, p', hs', A, B, h, sh, hh, hb, .inl ⟨rfl, rfl, e3⟩⟩)
  | @iff _ t p q p' q' h1 h2 =>
    have e : c'.part = .iff t p' q' ∧ c'.env = c.env ∧ c'.hs = hs' := by
      rcases br with b | ⟨_, _, _, _, _, b2, _⟩
      · exact b
      · cases b2
    obtain ⟨e1, e2, e3⟩ := e
    rw [st_iff hp, st_iff e1, e2]
    refine .inr (.inl ⟨no, no', mo, as_, tr, dp, md, s, if evS c.env t = 0 then q' else p', hs', A, B, ?_, sh, hh, hb, .inl ⟨rfl, rfl, e3⟩⟩)
    show SlR s (if evS c.env t = 0 then q else p) (if evS c.env t = 0 then q' else p')
    split
    · exact h2
    · exact h1
  | @post _ j x p q p' q' hj h1 h2 nc =>
    have e : c'.part = .post j x p' q' ∧ c'.env = c.env ∧ c'.hs = hs' := by
      rcases br with b | ⟨_, _, _, _, _, b2, _⟩
      · exact b
      · cases b2
    obtain ⟨e1, e2, e3⟩ := e
    have hm := (hh _ _ sh).facts
    rw [st_post hp, st_post e1, e2, e3]
    refine .inr (.inl ⟨no, no', mo, as_, tr, dp, by show c'.made + 1 ≤ c.made + 1; omega, upS s j (some j), q', setH hs' j (c'.tab.length + 1), bumpA A j, bumpA B j, h2, up_home hj sh, fun z z' hz => ?_, bump_le hj hb, .inl ⟨rfl, rfl, rfl⟩⟩)
    have hz' : (if z = j then some j else s z) = some z' := hz
    show Hr (c.tab ++ [_]) (c'.tab ++ [_]) (hAt (setH c.hs j (c.tab.length + 1)) z) (bumpA A j z) (hAt (setH hs' j (c'.tab.length + 1)) z') (bumpA B j z')
    by_cases e : z = j
    · rw [if_pos e] at hz'
      cases hz'
      subst e
      rw [set_at, set_at, show bumpA A z z = A "home" + 1 from if_pos rfl, show bumpA B z z = B "home" + 1 from if_pos rfl]
      have hr : Hr (c.tab ++ [⟨x, p, c.env, c.hs, hiAt c.tab (hAt c.hs "home") + 1, pcnt p + c.lim⟩]) (c'.tab ++ [⟨x, p', c.env, hs', hiAt c'.tab (hAt hs' "home") + 1, pcnt p' + c'.lim⟩]) (c.tab.length + 1) (hiAt c.tab (hAt c.hs "home") + 1) (c'.tab.length + 1) (hiAt c'.tab (hAt hs' "home") + 1) :=
        .made (r := ⟨x, p, c.env, c.hs, hiAt c.tab (hAt c.hs "home") + 1, pcnt p + c.lim⟩) (r' := ⟨x, p', c.env, hs', hiAt c'.tab (hAt hs' "home") + 1, pcnt p' + c'.lim⟩) (A := A) (B := B) tab_new tab_new rfl rfl h1 sh (fun y y' hy => (hh y y' hy).app tab_old tab_old)
          (fun y y' hy => by show A y ≤ hiAt c.tab (hAt c.hs "home") + 1; rw [hm.2.2.1]; exact hb y y' hy) (by show hiAt c.tab (hAt c.hs "home") + 1 = _; rw [hm.2.2.1]) (by show hiAt c'.tab (hAt hs' "home") + 1 = _; rw [hm.2.2.2])
      rw [hm.2.2.1, hm.2.2.2] at hr
      rw [hm.2.2.1, hm.2.2.2]
      exact hr
    · rw [if_neg e] at hz'
      have n2 : z' ≠ j := fun y => nc z e (by rw [← y]; exact hz')
      rw [set_ne e, set_ne n2, show bumpA A j z = A z from if_neg e, show bumpA B j z' = B z' from if_neg n2]
      exact (hh z z' hz').app tab_old tab_old
  | @pass _ j x k t p q q' hj h0 hp' h1 =>
    rw [st_post hp]
    obtain ⟨z0, hz0⟩ := rel_give h0 rfl
    refine .inl ⟨no, no', mo, as_, tr, dp, by show c'.made ≤ c.made + 1; omega, upS s j (some k), qq, hs', bumpA A j, B, h1, up_home hj sh, left_post hj sh hh fun z' hz r r1 r2 r3 r4 => ?_, bump_le hj hb, ?_⟩
    · cases hz
      have := Hr.pass (tab := c.tab ++ [r]) (tab' := c'.tab) (A := A) (B := B) (hs' := hs') (z0 := z0) tab_new (r2.symm ▸ h0) (r1.symm ▸ hp') sh hz0 (fun y y' hy => by rw [r3]; exact (hh y y' hy).app tab_old (fun _ _ h => h)) (fun y y' hy => by rw [r4]; exact hb y y' hy) r4
      rw [r4] at this
      exact this
    · exact br
  | @free _ j x p q q' hj h1 =>
    rw [st_post hp]
    exact .inl ⟨no, no', mo, as_, tr, dp, by show c'.made ≤ c.made + 1; omega, upS s j none, qq, hs', bumpA A j, B, h1, up_home hj sh, left_post hj sh hh (fun z' hz => nomatch hz), bump_le hj hb, br⟩
/-! ### whole runs -/
def itR (es : List TEr) : Nat → CT → CT
  | 0, c => c
  | n + 1, c => itR es n (stepT es c)
theorem it_last (es : List TEr) : ∀ (n : Nat) (c : CT), itR es (n + 1) c = stepT es (itR es n c)
  | 0, _ => rfl
  | n + 1, c => it_last es n (stepT es c)
theorem rch_it {es : List TEr} {a b : CT} (h : RchT es a b) : ∃ n, b = itR es n a ∧ ∀ m, m < n → (itR es m a).fin = .no := by
  induction h with
  | refl => exact ⟨0, rfl, fun m hm => absurd hm (Nat.not_lt_zero m)⟩
  | snoc _ hn ih =>
    obtain ⟨n, e, h⟩ := ih
    subst e
    refine ⟨n + 1, (it_last es n a).symm, fun m hm => ?_⟩
    by_cases c : m = n
    · rw [c]; exact hn
    · exact h m (by omega)
theorem runs_it {es : List TEr} (hA : ∀ e ∈ es, SlR some e.2.2 (slimP e.2.2)) : ∀ (N n n' : Nat) (c c' : CT), n + n' ≤ N → SimR c c' → (itR es n c).fin ≠ .no → (∀ m, m < n → (itR es m c).fin = .no) → (itR (es.map slimE) n' c').fin ≠ .no → (∀ m, m < n' → (itR (es.map slimE) m c').fin = .no) →
    SameR (itR es n c) (itR (es.map slimE) n' c') := by
  intro N
  induction N with
  | zero =>
    intro n n' c c' hN R f1 _ _ _
    have : n = 0 := by omega
    subst this
    exact absurd R.no f1
  | succ N ih =>
    intro n n' c c' hN R f1 g1 f2 g2
    cases n with
    | zero => exact absurd R.no f1
    | succ n =>
      cases n' with
      | zero => exact absurd R.no' f2
      | succ n' =>
        have g1' : ∀ m, m < n → (itR es m (stepT es c)).fin = .no := fun m hm => g1 (m + 1) (by omega)
        have g2' : ∀ m, m < n' → (itR (es.map slimE) m (stepT (es.map slimE) c')).fin = .no := fun m hm => g2 (m + 1) (by omega)
        rcases step_sim hA R with h | h | ⟨h1, h2, h3⟩
        · exact ih n (n' + 1) _ _ (by omega) h f1 g1' f2 g2
        · exact ih n n' _ _ (by omega) h f1 g1' f2 g2'
        · have e1 : n = 0 := Decidable.byContradiction fun z => h1 (g1' 0 (by omega))
          have e2 : n' = 0 := Decidable.byContradiction fun z => h2 (g2' 0 (by omega))
          subst e1 e2
          exact h3
/-- a slim book runs as the book, none higher, no more made -/
theorem slim_runs {es : List TEr} (hA : ∀ e ∈ es, SlR some e.2.2 (slimP e.2.2)) {m : Nat} {f : Str} {ns : List Int} {c c' : CT} (hf : (es.find? (fun e => decide (e.1 = f))).isSome = true) (h : RunEnd es m f ns c) (h' : RunEnd (es.map slimE) m f ns c') : SameR c c' := by
  obtain ⟨r, e⟩ := h
  obtain ⟨r', e'⟩ := h'
  obtain ⟨n, rfl, g⟩ := rch_it r
  obtain ⟨n', rfl, g'⟩ := rch_it r'
  have e0 : (askT (es.map slimE) (ct0 m) f ns 0) = askT (es.map slimE) (ct0 m) f ns 0 := rfl
  rcases ask_sim hA (c := ct0 m) (c' := ct0 m) (f := f) (ns := ns) rfl rfl rfl rfl rfl (Int.le_refl _) (Int.le_refl _) (Hr.fin) with z | ⟨z1, z2, z3⟩ | ⟨z1, z2⟩
  · exact runs_it hA _ n n' _ _ (Nat.le_refl _) z e g e' g'
  · have e1 : n = 0 := Decidable.byContradiction fun z => z1 (g 0 (by omega))
    have e2 : n' = 0 := Decidable.byContradiction fun z => z2 (g' 0 (by omega))
    subst e1 e2
    exact z3
  · exfalso
    obtain ⟨er, her⟩ := Option.isSome_iff_exists.mp hf
    by_cases c0 : (0 : Nat) = m
    · have : askT es (ct0 m) f ns 0 = { ct0 m with fin := .long } := by
        unfold askT
        exact if_pos c0
      rw [this] at z1
      have := congrArg CT.fin z1
      cases this
    · have : askT es (ct0 m) f ns 0 = { ct0 m with asked := 0 + 1, trail := [] ++ [.ask f ns], deepest := max 0 (hiAt [] 0), part := er.2.2, env := envOf er.2.1 ns, hs := fun y => if y = "home" then some 0 else none } := by
        unfold askT
        rw [if_neg (show ¬ (ct0 m).asked = (ct0 m).most from c0), her]
        rfl
      rw [this] at z1
      have := congrArg CT.asked z1
      cases this
end KB

namespace KB
open PySem L2 HT

abbrev innP : Pt → List Pt := restP
theorem pcnt_inn (p : Pt) : pcnt p = 1 + ((innP p).map pcnt).sum := by
  cases p <;> simp only [pcnt, restP, List.map, List.sum_cons, List.sum_nil] <;> omega
theorem mem_sum {ps : List Pt} {p : Pt} (h : p ∈ ps) : pcnt p ≤ (ps.map pcnt).sum := by
  induction ps with
  | nil => cases h
  | cons a r ih =>
    rw [List.map_cons, List.sum_cons]
    rcases List.mem_cons.mp h with z | z
    · subst z
      omega
    · have := ih z
      omega
def smpN : Pt → Nat
  | .ask _ ts _ => ts.length
  | .post _ _ _ _ => 0
  | _ => 1
/-! ### where a part hands on what is not due -/
def dueK : Pt → Str → Nat → Str
  | .post j _ _ _, _, 1 => j
  | _, due, _ => due
def bentL : Pt → Str → List (List Int)
  | .give j _, due => if j = due then [] else [[]]
  | .ask _ _ j, due => if j = due then [] else [[]]
  | .tell _ _ q, due => (bentL q due).map (fun e => (1 : Int) :: e) ++ []
  | .lett _ _ q, due => (bentL q due).map (fun e => (1 : Int) :: e) ++ []
  | .iff _ q u, due => (bentL q due).map (fun e => (1 : Int) :: e) ++ ((bentL u due).map (fun e => (2 : Int) :: e) ++ [])
  | .post j _ q u, due => (bentL q due).map (fun e => (0 : Int) :: e) ++ ((bentL u j).map (fun e => (1 : Int) :: e) ++ [])
def bentK (s : Nat) (d : Nat → Str) : Nat → List Pt → List (List Int)
  | _, [] => []
  | i, p :: r => (bentL p (d i)).map (fun e => (((s : Nat) : Int) + ((i : Nat) : Int)) :: e) ++ bentK s d (i + 1) r
theorem eq_strV (a b : Str) : eqV (.str a) (.str b) = decide (a = b) := by
  show (a == b) = decide (a = b)
  by_cases h : a = b
  · rw [decide_eq_true h, beq_iff_eq]; exact h
  · rw [decide_eq_false h]; exact beq_eq_false_iff_ne.mpr h
theorem hand_flat (p : Pt) : flatV (handV p) = true := by cases p <;> rfl
theorem hand_str (j due : Str) : inV (.str j) [.non, .str due] = decide (due = j) := by
  show (false || (eqV (.str due) (.str j) || false)) = _
  rw [eq_strV, Bool.false_or, Bool.or_false]
theorem bent_yes {p : Pt} {due : Str} (h : (!inV (handV p) [.non, .str due]) = true) : bentL p due = [[]] := by
  cases p with
  | give j t =>
    rw [show handV (.give j t) = .str j from rfl, hand_str] at h
    have : ¬ due = j := fun z => by rw [decide_eq_true z] at h; cases h
    exact if_neg fun z => this z.symm
  | ask f ts j =>
    rw [show handV (.ask f ts j) = .str j from rfl, hand_str] at h
    have : ¬ due = j := fun z => by rw [decide_eq_true z] at h; cases h
    exact if_neg fun z => this z.symm
  | _ => exact absurd h (by show ¬ false = true; exact Bool.false_ne_true)
theorem bent_no {p : Pt} {due : Str} (h : (!inV (handV p) [.non, .str due]) ≠ true) : bentL p due = bentK (smpN p) (dueK p due) 0 (innP p) := by
  cases p with
  | give j t =>
    rw [show handV (.give j t) = .str j from rfl, hand_str] at h
    have : due = j := Decidable.byContradiction fun z => h (by rw [decide_eq_false z]; rfl)
    exact if_pos this.symm
  | ask f ts j =>
    rw [show handV (.ask f ts j) = .str j from rfl, hand_str] at h
    have : due = j := Decidable.byContradiction fun z => h (by rw [decide_eq_false z]; rfl)
    exact if_pos this.symm
  | _ => rfl
theorem smp_terms (p : Pt) : (termsP p).length = smpN p := by cases p <;> rfl
/-! ### a row of parts that wait -/
abbrev Tri := List Int × Pt × Str
def remB : List Tri → List (List Int)
  | [] => []
  | e :: r => (bentL e.2.1 e.2.2).map (fun k => e.1 ++ k) ++ remB r
def triB (ks : List Int) (s : Nat) (d : Nat → Str) : Nat → List Pt → List Tri
  | _, [] => []
  | i, p :: r => (ks ++ [((s : Nat) : Int) + ((i : Nat) : Int)], p, d i) :: triB ks s d (i + 1) r
theorem remB_app : ∀ a b : List Tri, remB (a ++ b) = remB a ++ remB b
  | [], b => rfl
  | e :: r, b => by
    show _ ++ remB (r ++ b) = (_ ++ remB r) ++ remB b
    rw [remB_app r b, List.append_assoc]
theorem remB_tri (ks : List Int) (s : Nat) (d : Nat → Str) : ∀ (ps : List Pt) (i : Nat), remB (triB ks s d i ps) = (bentK s d i ps).map (fun k => ks ++ k)
  | [], _ => rfl
  | p :: r, i => by
    show (bentL p (d i)).map (fun k => (ks ++ [((s : Nat) : Int) + ((i : Nat) : Int)]) ++ k) ++ remB (triB ks s d (i + 1) r) = _
    rw [remB_tri ks s d r (i + 1)]
    show _ = (((bentL p (d i)).map _) ++ bentK s d (i + 1) r).map _
    rw [List.map_append, List.map_map]
    congr 1
    refine List.map_congr_left fun k _ => ?_
    show (ks ++ [((s : Nat) : Int) + ((i : Nat) : Int)]) ++ k = ks ++ ((((s : Nat) : Int) + ((i : Nat) : Int)) :: k)
    rw [List.append_assoc]
    rfl
theorem triB_drop {ks : List Int} {s : Nat} {d : Nat → Str} {kl : List Pt} {i : Nat} (h : i < kl.length) : triB ks s d i (kl.drop i) = (ks ++ [((s : Nat) : Int) + ((i : Nat) : Int)], kl[i], d i) :: triB ks s d (i + 1) (kl.drop (i + 1)) := by
  rw [List.drop_eq_getElem_cons h]
  rfl
theorem triB_len {ks : List Int} {s : Nat} {d : Nat → Str} : ∀ {ps : List Pt} {i : Nat}, (triB ks s d i ps).length = ps.length
  | [], _ => rfl
  | p :: r, i => by
    show (triB ks s d (i + 1) r).length + 1 = r.length + 1
    rw [triB_len]
def triW : List Tri → Nat
  | [] => 0
  | e :: r => pcnt e.2.1 + triW r
theorem triW_app : ∀ a b : List Tri, triW (a ++ b) = triW a + triW b
  | [], b => (Nat.zero_add _).symm
  | e :: r, b => by
    show pcnt e.2.1 + triW (r ++ b) = (pcnt e.2.1 + triW r) + triW b
    rw [triW_app r b]
    omega
theorem triW_tri (ks : List Int) (s : Nat) (d : Nat → Str) : ∀ (ps : List Pt) (i : Nat), triW (triB ks s d i ps) = (ps.map pcnt).sum
  | [], _ => rfl
  | p :: r, i => by
    show pcnt p + triW (triB ks s d (i + 1) r) = _
    rw [triW_tri ks s d r]
    rfl
theorem pc_posP (p : Pt) : 1 ≤ pcnt p := by
  rw [pcnt_inn]
  exact Nat.le_add_right _ _
theorem triW_len : ∀ a : List Tri, a.length ≤ triW a
  | [] => Nat.le_refl _
  | e :: r => by
    have := triW_len r
    have := pc_posP e.2.1
    show r.length + 1 ≤ pcnt e.2.1 + triW r
    omega
def TriV (H : Hp) (nm : Str) (e : Tri) (v : V) : Prop := ∃ q r b, v = .ref q ∧ H q = some (.tup [.ref r, .ref b, .str e.2.2]) ∧ H r = some (.tup (.str nm :: e.1.map V.int)) ∧ PAt H e.2.1 b
theorem TriV.tk {H H' : Hp} (k : TK H H') {nm : Str} {e : Tri} {v : V} (h : TriV H nm e v) : TriV H' nm e v := let ⟨q, r, b, e1, h1, h2, h3⟩ := h; ⟨q, r, b, e1, k _ _ h1, k _ _ h2, h3.tk k⟩
/-- a place, or None -/
def OptPl (H : Hp) (nm : Str) : Option (List Int) → V → Prop
  | none, v => v = .non
  | some ks, v => PlS H (nm, ks) v
theorem post_due {p : Pt} {due : Str} (h : hsP p ≠ "post") (i : Nat) : dueK p due i = due := by
  cases p with
  | post j x q u => exact absurd rfl h
  | _ => rfl
theorem post_of {p : Pt} (h : hsP p = "post") : ∃ j x q u, p = .post j x q u := by
  cases p with
  | post j x q u => exact ⟨j, x, q, u, rfl⟩
  | _ => dsimp only [hsP] at h; exact absurd h (by decide)
theorem due_post {j x : Str} {q u : Pt} {due : Str} (i : Nat) : dueK (.post j x q u) due i = if i = 1 then j else due := by
  match i with
  | 0 => rfl
  | 1 => rfl
  | i + 2 => rw [if_neg (by omega)]; rfl

section
variable {P : Program} {w : World} {K : PySem.W.Frag} {mg : Str → Option Value} {base : Heap}
/-! ### bent_in -/
def spBentIn : Sp := fun vs H Q _ => ∃ (nm : Str) (a : Addr) (p : Pt), vs = [.str nm, .ref a] ∧ PAt H p a ∧ pcnt p ≤ 2000 ∧ ∀ v H', Same H H' → OptPl H' nm (bentL p "home").head? v → Q v H'
abbrev sbent_in : Stmt := top 19
theorem scbent_in : FnScope ["name", "body", "waiting", "place", "part", "due", "first", "rest", "k", "is_due_own"] ["name", "body"] (defScope sbent_in) := ⟨rfl, rfl, rfl, by decide +kernel, rfl, by decide +kernel, by decide +kernel⟩
def BiW (H : Hp) (nm : Str) (a wl : Addr) (t : Pt) (m : Nat) (σ : St) (H' : Hp) : Prop := ∃ o3 o4 o5 o6 o7 o8 o9 rs es, σ = [some (.str nm), some (.ref a), some (.ref wl), o3, o4, o5, o6, o7, o8, o9] ∧ Same H H' ∧ H' wl = some (.lst (List.reverse rs)) ∧ All2 (TriV H' nm) es rs ∧ m = triW es ∧
  triW es ≤ pcnt t ∧ (∀ e ∈ es, e.1.length + pcnt e.2.1 ≤ pcnt t) ∧ (remB es).head? = (bentL t "home").head?
def BiI (H : Hp) (nm : Str) (a wl b ra pp : Addr) (p1 : Pt) (due : Str) (ks : List Int) (es : List Tri) (ys : List V) (i : Nat) (σ : St) (H' : Hp) : Prop :=
  ∃ o8 o9, σ = [some (.str nm), some (.ref a), some (.ref wl), some (.ref ra), some (.ref b), some (.str due), some (.int ((smpN p1 : Nat) : Int)), some (.ref pp), o8, o9] ∧ Same H H' ∧
  (∃ rs, H' wl = some (.lst (List.reverse rs)) ∧ All2 (TriV H' nm) (triB ks (smpN p1) (dueK p1 due) ((innP p1).length - i) ((innP p1).drop ((innP p1).length - i)) ++ es) rs) ∧
  H' ra = some (.tup (.str nm :: ks.map V.int)) ∧ H' pp = some (.tup ys) ∧ All2 (TrP.V H') (innP p1) ys ∧ PAt H' p1 b
theorem ok_bentin (T : Txt K mg) {th : Value} (eh : mg "HOME" = some th) (rh : RelV (.str "home") th) {f f1 f2 f3 : Addr} {fd d1 d2 d3 : FuncData} (F : Fun K "bent_in" "bent_in" sbent_in f fd) (Ghand_of : FnOk P w K mg base CX0 1 f1 d1 ["part"] spHandOf) (Rhand_of : Ref K mg "hand_of" f1 d1 ["part"])
    (Gterms_in : FnOk P w K mg base CX0 1 f2 d2 ["part"] spTermsIn) (Rterms_in : Ref K mg "terms_in" f2 d2 ["part"]) (Grest_of : FnOk P w K mg base CX0 1 f3 d3 ["part"] (spKids TrP)) (Rrest_of : Ref K mg "rest_of" f3 d3 ["part"]) : FnOk P w K mg base CX0 2 f fd ["name", "body"] spBentIn := by
  refine F.ok scbent_in (fun vs H Q E h => ?_) (fun cdv A outer s H vs Q E hr h => ?_)
  · obtain ⟨nm, a, t, rfl, _⟩ := h
    rfl
  obtain ⟨nm, a, t, rfl, hA, hc, q⟩ := h
  refine ⟨_, (pss_cons (ps_set (i := 2) scbent_in.nd rfl (Or.inl rfl) (pe_lst (pa_cons (pe_tup (pa_cons (pe_tup (pa_cons (pv 0) pa_nil)) (pa_cons (pv 1) (pa_cons (pe_glob (v := .str "home") rfl eh rh) pa_nil)))) pa_nil)))
    (pss_cons (ps_while PassesOwn.never (pt_truth (pv 2) (by intro _; rfl)) (pss_cons (ps_asg (pe_bm0 PySem.F.plainAttrs_list PySem.F.slot_list_pop PySem.F.type_list_pop mt_pop (pv 2)) (pg_tup rfl (pgs_cons (pg_name (i := 3) scbent_in.nd rfl (Or.inl rfl)) (pgs_cons (pg_name (i := 4) scbent_in.nd rfl (Or.inl rfl)) (pgs_cons (pg_name (i := 5) scbent_in.nd rfl (Or.inl rfl)) pgs_nil)))))
    (pss_cons (ps_if (pt_cmpR op_notIn_seq (pe_call Ghand_of (hr.mono (by omega)) rfl Rhand_of.m Rhand_of.k Rhand_of.b .nil pass0 (pa_cons (pv 4) pa_nil)) (pe_tup (pa_cons pe_non (pa_cons (pv 5) pa_nil))) rfl) (pss_one (ps_ret (pv 3))) pss_nil)
    (pss_cons (ps_set (i := 6) scbent_in.nd rfl (Or.inl rfl) (pe_callB call_len_seq (by rfl) T.m_len PySem.boot_len (pa_cons (pe_call Gterms_in (hr.mono (by omega)) rfl Rterms_in.m Rterms_in.k Rterms_in.b .nil pass0 (pa_cons (pv 4) pa_nil)) pa_nil)))
    (pss_cons (ps_set (i := 7) scbent_in.nd rfl (Or.inl rfl) (pe_call Grest_of (hr.mono (by omega)) rfl Rrest_of.m Rrest_of.k Rrest_of.b .nil pass0 (pa_cons (pv 4) pa_nil)))
    (pss_one (ps_for PassesOwn.never rfl (pi_revR rfl T.m_reversed (prg_1 rfl T.m_range (pe_callB call_len_seq (by rfl) T.m_len PySem.boot_len (pa_cons (pv 7) pa_nil)))) (pg_name (i := 8) scbent_in.nd rfl (Or.inl rfl)) (Evl.pss_cut (ps_set (i := 9) scbent_in.nd rfl (Or.inl rfl) (pe_and (pe_cmpR op_eq (pe_ix ix_tup (pv 4) pe_int (fun _ _ => rfl)) pe_str (nomark _)) (pe_one (pe_cmpR op_eq (pv 8) pe_int (nomark _)))))
    (pss_one (ps_expr (pe_bm PySem.F.plainAttrs_list PySem.F.slot_list_append PySem.F.type_list_append mt_append (pv 2) (pa_cons (pe_tup (pa_cons (pe_tup (StX.pa_star (pv 3) (pa_cons (pe_op op_add (pv 6) (pv 8)) pa_nil))) (pa_cons (pe_ix ix_tup (pv 7) (pv 8) (fun _ _ => rfl)) (pa_cons (pe_ifExp (pt_val (pv 9)) (pe_ix ix_tup (pv 4) pe_int (fun _ _ => rfl)) (pv 5)) pa_nil)))) pa_nil))))))))))))
    (pss_one (ps_ret pe_non)))), ?_⟩
  refine ⟨_, rfl, sz (by show 1 ≤ 100000; decide), fun p0 hp0 => ?_⟩
  have s0 := same_new hp0 (.tup [.str nm])
  refine ⟨_, rfl, sz (by show 3 ≤ 100000; decide), fun p1 hp1 => ?_⟩
  have s1 := same_new hp1 (.tup [.ref p0, .ref a, .str "home"])
  refine ⟨sz (by show 1 ≤ 100000; decide), fun wl hwl => ?_⟩
  have s2 := same_new hwl (.lst [.ref p1])
  have s01 := s0.trans s1
  have sA := s01.trans s2
  have hw0 : H wl = none := s01.free hwl
  refine ⟨BiW H nm a wl t, ⟨_, none, none, none, none, none, none, none, [.ref p1], [([], t, "home")], rfl, sA, upd_same, ⟨⟨p1, p0, a, rfl, s2 _ _ upd_same, (s1.trans s2) _ _ upd_same, hA.tk (tk_same sA)⟩, trivial⟩, rfl, Nat.le_refl _, ?_, ?_⟩, ?_⟩
  · intro e he
    rw [List.mem_singleton.mp he]
    show 0 + pcnt t ≤ pcnt t
    omega
  · show ((bentL t "home").map (fun k => [] ++ k) ++ []).head? = _
    simp
  clear s0 s1 s2 s01 sA hp0 hp1 hwl
  rintro m σ H1 ⟨o3, o4, o5, o6, o7, o8, o9, rs, es, rfl, s1, h2, k2, rfl, hm, hd, hx⟩
  refine ⟨_, rfl, _, .inl ⟨_, SqL.of h2, rfl⟩, ?_⟩
  cases rs with
  | nil =>
    cases es with
    | cons _ _ => exact k2.elim
    | nil =>
      refine itF rfl (q _ _ s1 ?_)
      rw [← hx]
      rfl
  | cons r rs =>
    cases es with
    | nil => exact k2.elim
    | cons e1 es =>
      obtain ⟨ks, p1, due⟩ := e1
      obtain ⟨⟨qa, ra, b, rfl, g1, g2, g3⟩, k3⟩ := k2
      refine itT (by simp) ⟨fun σ' H' => ∃ m', m' < triW ((ks, p1, due) :: es) ∧ BiW H nm a wl t m' σ' H', fun _ _ z => z, ?_⟩
      refine ⟨_, rfl, .inl ⟨rfl, _, SqL.of h2⟩, wl, _, .ref qa, rfl, rfl, h2, by simp, ?_⟩
      have eD : ((V.ref qa :: rs).reverse).dropLast = rs.reverse := by rw [List.reverse_cons, List.dropLast_concat]
      rw [eD]
      have tk2 : TK H1 (upd H1 wl (.lst rs.reverse)) := tk_put h2
      have s2 : Same H (upd H1 wl (.lst rs.reverse)) := same_mut s1 hw0
      have w2 : upd H1 wl (.lst rs.reverse) wl = some (.lst rs.reverse) := upd_same
      have k5 := k3.imp fun _ _ z => TriV.tk tk2 z
      have g4 := tk2 _ _ g1
      have g5 := tk2 _ _ g2
      have g6 : PAt _ p1 b := PAt.tk tk2 g3
      clear tk2
      generalize upd H1 wl (.lst rs.reverse) = H2 at s2 w2 k5 g4 g5 g6
      refine ⟨qa, _, rfl, SqT.of g4, rfl, _, _, rfl, _, _, rfl, _, _, rfl, rfl, ?_⟩
      -- hand_of(part) not in (None, due)
      refine ⟨_, rfl, b, p1, rfl, g6, _, rfl, sz (by show 2 ≤ 100000; decide), fun t3 ht3 => ?_⟩
      have s3 := same_new ht3 (.tup [.non, .str due])
      refine ⟨t3, _, rfl, .inr (SqT.of upd_same), hand_flat p1, rfl, _, rfl, ?_⟩
      have hd1 := hd _ List.mem_cons_self
      have hd1' : ks.length + pcnt p1 ≤ pcnt t := hd1
      refine ite2 (fun c => ?_) (fun c => ?_)
      · refine ⟨_, rfl, q _ _ (s2.trans s3) ?_⟩
        have e : remB ((ks, p1, due) :: es) = (bentL p1 due).map (fun k => ks ++ k) ++ remB es := rfl
        rw [← hx, e, bent_yes c]
        show PlS _ (nm, ks ++ []) (.ref ra)
        rw [List.append_nil]
        exact ⟨ra, rfl, s3 _ _ g5⟩
      have hbn := bent_no c
      generalize upd H2 t3 (.tup [.non, .str due]) = H3 at s3
      refine ⟨_, rfl, b, p1, rfl, g6.tk (tk_same s3), fun H4 q4 vs4 s4 h4 k4 => ⟨q4, _, rfl, .inr (SqT.of h4), ?_⟩⟩
      have e4 : vs4.length = smpN p1 := by rw [k4.len, smp_terms]
      rw [e4]
      have s34 := s3.trans s4
      refine ⟨_, rfl, p1, b, rfl, g6.tk (tk_same s34), fun pp H5 ys s5 h5 k6 => ?_⟩
      have s35 := s34.trans s5
      have s6 := s2.trans s35
      have hyl : ys.length = (innP p1).length := k6.len
      refine ⟨_, rfl, pp, _, rfl, .inr (SqT.of h5), _, rfl, by decide, by decide, ?_, ?_, ?_⟩
      · omega
      · have : (innP p1).length ≤ 2 := by cases p1 <;> simp [innP, restP]
        omega
      rw [hyl]
      generalize hn : (innP p1).length = n at hyl
      have hn2 : n ≤ 2 := by rw [← hn]; cases p1 <;> simp [innP, restP]
      have e0 : ((n : Int) - 0).toNat = n := by omega
      rw [e0]
      have hW : triW ((ks, p1, due) :: es) = 1 + ((innP p1).map pcnt).sum + triW es := by
        show pcnt p1 + triW es = _
        rw [pcnt_inn p1]
      have hel := triW_len es
      refine for_rangeC (lo := 0 + (n : Int) - 1) (c := -1) (n := n) (BiI H nm a wl b ra pp p1 due ks es ys) ?_ ?_ ?_
      · refine ⟨_, _, rfl, s6, ⟨rs, s35 _ _ w2, ?_⟩, s35 _ _ g5, h5, k6, g6.tk (tk_same s35)⟩
        rw [Nat.sub_zero, List.drop_length]
        exact k5.imp fun _ _ z => TriV.tk (tk_same s35) z
      · rintro i σ' H6 hi ⟨o8', o9', rfl, r1, ⟨rs6, r4, r5⟩, r6, r7, r8, r9⟩
        rw [hn] at r5
        have hj : n - i - 1 < n := by omega
        have ej : (0 : Int) + (n : Int) - 1 + ((i : Nat) : Int) * (-1) = ((n - i - 1 : Nat) : Int) := by omega
        rw [ej]
        obtain ⟨v, hv⟩ : ∃ v, ys[n - i - 1]? = some v := ⟨_, List.getElem?_eq_getElem (by rw [hyl]; exact hj)⟩
        obtain ⟨tj, htj, bj, rfl, hbj⟩ := r8.get hv
        have hes6 := r5.len
        rw [List.length_append, triB_len, List.length_drop, hn] at hes6
        obtain ⟨r0, hhd⟩ := r9.head
        refine ⟨fun σ'' H'' => H'' = H6 ∧ σ'' = [some (.str nm), some (.ref a), some (.ref wl), some (.ref ra), some (.ref b), some (.str due), some (.int ((smpN p1 : Nat) : Int)), some (.ref pp), some (.int ((n - i - 1 : Nat) : Int)), some (.bl (decide (hsP p1 = "post") && decide (n - i - 1 = 1)))], ?_, ?_⟩
        · refine ⟨_, rfl, b, _, _, _, rfl, rfl, SqT.of hhd, at0, rfl, _, rfl, ?_⟩
          refine ite2 (fun c => ?_) (fun c => ?_)
          · have e1 : hsP p1 = "post" := V.str.inj (of_decide_eq_true c)
            refine ⟨_, rfl, rfl, rfl, ?_⟩
            have e2 : decide (V.int ((n - i - 1 : Nat) : Int) = V.int 1) = (decide (hsP p1 = "post") && decide (n - i - 1 = 1)) := by
              rw [decide_eq_true e1, Bool.true_and]
              by_cases z : n - i - 1 = 1
              · rw [decide_eq_true z, decide_eq_true (by rw [z]; rfl)]
              · rw [decide_eq_false z, decide_eq_false (fun y => z (by have := V.int.inj y; omega))]
            rw [e2]
            rfl
          · have e1 : ¬ hsP p1 = "post" := fun z => c (decide_eq_true (congrArg V.str z))
            refine ⟨rfl, ?_⟩
            rw [decide_eq_false e1, Bool.false_and]
            rfl
        intro σz Hz hz
        obtain ⟨eHz, rfl⟩ := hz
        rw [eHz]
        clear eHz Hz
        have hduek : ∃ d', d' = dueK p1 due (n - i - 1) ∧ (((decide (hsP p1 = "post") && decide (n - i - 1 = 1)) = true ∧ ∃ r1, H6 b = some (.tup (.str "post" :: .str d' :: r1))) ∨ ((decide (hsP p1 = "post") && decide (n - i - 1 = 1)) = false ∧ d' = due)) := by
          refine ⟨_, rfl, ?_⟩
          by_cases e1 : hsP p1 = "post"
          · obtain ⟨j, x, pq, pu, rfl⟩ := post_of e1
            rw [due_post]
            by_cases e2 : n - i - 1 = 1
            · rw [if_pos e2]
              obtain ⟨c1, c2, hh, _⟩ := r9
              exact .inl ⟨by rw [decide_eq_true e1, decide_eq_true e2]; rfl, _, hh⟩
            · rw [if_neg e2]
              exact .inr ⟨by rw [decide_eq_false e2, Bool.and_false], rfl⟩
          · exact .inr ⟨by rw [decide_eq_false e1, Bool.false_and], post_due e1 _⟩
        obtain ⟨d', ed, hdc⟩ := hduek
        generalize (decide (hsP p1 = "post") && decide (n - i - 1 = 1)) = own at hdc ⊢
        refine ⟨_, rfl, .inl ⟨rfl, _, SqL.of r4⟩, _, rfl, ra, _, rfl, .inl (SqT.of r6), _, rfl, _, rfl, _, _, rfl, rfl, sz ?_, fun p3 hp3 => ?_⟩
        · show ((.str nm :: ks.map V.int) ++ [V.int (((smpN p1 : Nat) : Int) + ((n - i - 1 : Nat) : Int))]).length ≤ 100000
          rw [List.length_append, List.length_cons, List.length_map, List.length_singleton]
          omega
        have t3 := same_new hp3 (.tup ((.str nm :: ks.map V.int) ++ [.int (((smpN p1 : Nat) : Int) + ((n - i - 1 : Nat) : Int))]))
        have fin : ∀ p4, upd H6 p3 (.tup ((.str nm :: ks.map V.int) ++ [.int (((smpN p1 : Nat) : Int) + ((n - i - 1 : Nat) : Int))])) p4 = none →
            BiI H nm a wl b ra pp p1 due ks es ys (i + 1) [some (.str nm), some (.ref a), some (.ref wl), some (.ref ra), some (.ref b), some (.str due), some (.int ((smpN p1 : Nat) : Int)), some (.ref pp), some (.int ((n - i - 1 : Nat) : Int)), some (.bl own)]
              (upd (upd (upd H6 p3 (.tup ((.str nm :: ks.map V.int) ++ [.int (((smpN p1 : Nat) : Int) + ((n - i - 1 : Nat) : Int))]))) p4 (.tup [.ref p3, .ref bj, .str d'])) wl (.lst (rs6.reverse ++ [.ref p4]))) := by
          intro p4 hp4
          have t4 := same_new hp4 (.tup [.ref p3, .ref bj, .str d'])
          have tt := t3.trans t4
          have w6 := tt _ _ r4
          have tk6 := (tk_same tt).trans (tk_put (o := .lst (rs6.reverse ++ [.ref p4])) w6)
          refine ⟨_, _, rfl, same_mut (r1.trans tt) hw0, ⟨.ref p4 :: rs6, ?_, ?_⟩, tk6 _ _ r6, tk6 _ _ r7, r8.imp fun _ _ z => Tre.V.tk tk6 z, r9.tk tk6⟩
          · rw [upd_same, List.reverse_cons]
          · rw [hn]
            have e2 : n - (i + 1) = n - i - 1 := by omega
            have e3 : n - i - 1 + 1 = n - i := by omega
            rw [e2, triB_drop (by rw [hn]; exact hj), e3]
            refine ⟨⟨p4, p3, bj, rfl, ?_, ?_, ?_⟩, r5.imp fun _ _ z => TriV.tk tk6 z⟩
            · show _ = some (HO.tup [.ref p3, .ref bj, .str (dueK p1 due (n - i - 1))])
              rw [← ed]
              exact tk_put w6 _ _ upd_same
            · have z := (tk_same t4).trans (tk_put (o := .lst (rs6.reverse ++ [.ref p4])) w6) _ _ (upd_same (H := H6) (a := p3) (o := .tup ((.str nm :: ks.map V.int) ++ [.int (((smpN p1 : Nat) : Int) + ((n - i - 1 : Nat) : Int))])))
              rw [z]
              simp
            · have e9 : (innP p1)[n - i - 1]'(by rw [hn]; exact hj) = tj := by
                have z9 : (innP p1)[n - i - 1]? = some tj := htj
                rw [List.getElem?_eq_getElem (by rw [hn]; exact hj)] at z9
                exact Option.some.inj z9
              show PAt _ ((innP p1)[n - i - 1]'(by rw [hn]; exact hj)) bj
              rw [e9]
              exact PAt.tk tk6 hbj
        have small : rs6.reverse.length < sizeLine := Nat.lt_of_le_of_lt (m := 4000) (by rw [List.length_reverse]; omega) (by decide)
        refine ⟨_, rfl, _, rfl, pp, _, _, _, rfl, rfl, SqT.of (t3 _ _ r7), atI_nat hv, _, rfl, _, rfl, ?_⟩
        rcases hdc with ⟨c1, r1', hr1⟩ | ⟨c1, e⟩
        · rw [if_pos c1]
          refine ⟨_, rfl, b, _, _, _, rfl, rfl, SqT.of (t3 _ _ hr1), at1, sz (by show 3 ≤ 100000; decide), fun p4 hp4 => ?_⟩
          exact ⟨wl, _, _, rfl, rfl, (same_new hp4 _) _ _ (t3 _ _ r4), small, fin p4 hp4⟩
        · rw [if_neg (by rw [c1]; exact Bool.false_ne_true)]
          subst e
          refine ⟨_, rfl, sz (by show 3 ≤ 100000; decide), fun p4 hp4 => ?_⟩
          exact ⟨wl, _, _, rfl, rfl, (same_new hp4 _) _ _ (t3 _ _ r4), small, fin p4 hp4⟩
      · rintro σ' H6 ⟨o8', o9', rfl, r1, ⟨rs6, r4, r5⟩, r6, r7, r8, r9⟩
        rw [hn, Nat.sub_self, List.drop_zero] at r5
        have e3 : triW (triB ks (smpN p1) (dueK p1 due) 0 (innP p1) ++ es) = ((innP p1).map pcnt).sum + triW es := by rw [triW_app, triW_tri]
        refine ⟨_, ?_, _, _, _, _, _, _, _, rs6, _, rfl, r1, r4, r5, rfl, ?_, ?_, ?_⟩
        · rw [e3, hW]
          omega
        · rw [e3]
          rw [hW] at hm
          omega
        · intro e he
          rcases List.mem_append.mp he with z | z
          · have hkids : ∀ (ps : List Pt) (i : Nat), (∀ p ∈ ps, pcnt p < pcnt p1) → ∀ e ∈ triB ks (smpN p1) (dueK p1 due) i ps, e.1.length + pcnt e.2.1 ≤ pcnt t := by
              intro ps
              induction ps with
              | nil => intro _ _ e he; cases he
              | cons p r ih =>
                intro i hp e he
                rcases List.mem_cons.mp he with y | y
                · subst y
                  have := hp p List.mem_cons_self
                  show (ks ++ [_]).length + pcnt p ≤ _
                  rw [List.length_append, List.length_singleton]
                  omega
                · exact ih (i + 1) (fun p' h' => hp p' (List.mem_cons_of_mem _ h')) e y
            refine hkids _ 0 (fun p hp => ?_) e z
            have := mem_sum hp
            rw [pcnt_inn p1]
            omega
          · exact hd e (List.mem_cons_of_mem _ z)
        · rw [← hx, remB_app, remB_tri, ← hbn]
          rfl
end
/-! ### a turned book's first bent place -/
def bentB : List TEr → Option (Str × List Int)
  | [] => none
  | e :: r => match (bentL e.2.2 "home").head? with
    | some ks => some (e.1, ks)
    | none => bentB r
def OptP (H : Hp) : Option (Str × List Int) → V → Prop
  | none, v => v = .non
  | some x, v => PlS H x v
theorem OptP.tk {H H' : Hp} (k : TK H H') {o : Option (Str × List Int)} {v : V} (h : OptP H o v) : OptP H' o v := by
  cases o with
  | none => exact h
  | some x => exact PlS.tk k h
theorem bentB_some {e : TEr} {r : List TEr} {ks : List Int} (h : (bentL e.2.2 "home").head? = some ks) : bentB (e :: r) = some (e.1, ks) := by
  unfold bentB
  rw [h]
theorem bentB_none {e : TEr} {r : List TEr} (h : (bentL e.2.2 "home").head? = none) : bentB (e :: r) = bentB r := by
  show (match (bentL e.2.2 "home").head? with | some ks => some (e.1, ks) | none => bentB r) = bentB r
  rw [h]
section
variable {P : Program} {w : World} {K : PySem.W.Frag} {mg : Str → Option Value} {base : Heap} {CB : Addr}
/-! ### bent_at -/
def spBentAt : Sp := fun vs H Q _ => ∃ (p : Addr) (es : List TEr) (us : List V), vs = [.ref p] ∧ TBkAt H es us p ∧ (∀ e ∈ es, pcnt e.2.2 ≤ 2000) ∧ ∀ v H', Same H H' → OptP H' (bentB es) v → Q v H'
abbrev sbent_at : Stmt := top 18
theorem scbent_at : FnScope ["turned", "name", "names", "body", "place"] ["turned"] (defScope sbent_at) := ⟨rfl, rfl, rfl, by decide +kernel, rfl, by decide +kernel, by decide +kernel⟩
theorem ok_bentat {f f1 : Addr} {fd d1 : FuncData} (F : Fun K "bent_at" "bent_at" sbent_at f fd) (Gbent_in : FnOk P w K mg base CX0 2 f1 d1 ["name", "body"] spBentIn) (Rbent_in : Ref K mg "bent_in" f1 d1 ["name", "body"]) : FnOk P w K mg base CX0 3 f fd ["turned"] spBentAt := by
  refine F.ok scbent_at (fun vs H Q E h => ?_) (fun cdv A outer s H vs Q E hr h => ?_)
  · obtain ⟨p, es, us, rfl, _⟩ := h
    rfl
  obtain ⟨p, es, us, rfl, hB, hc, q⟩ := h
  refine ⟨_, (pss_cons (ps_for PassesOwn.never rfl (pi_tup (pv 0)) (pg_tup rfl (pgs_cons (pg_name (i := 1) scbent_at.nd rfl (Or.inl rfl)) (pgs_cons (pg_name (i := 2) scbent_at.nd rfl (Or.inl rfl)) (pgs_cons (pg_name (i := 3) scbent_at.nd rfl (Or.inl rfl)) pgs_nil)))) (pss_cons (ps_set (i := 4) scbent_at.nd rfl (Or.inl rfl) (pe_call Gbent_in (hr.mono (by omega)) rfl Rbent_in.m Rbent_in.k Rbent_in.b .nil pass0 (pa_cons (pv 1) (pa_cons (pv 3) pa_nil))))
    (pss_one (ps_if (pt_cmpR op_notN (pv 4) pe_non (nomark _)) (pss_one (ps_ret (pv 4))) pss_nil))))
    (pss_one (ps_ret pe_non))), ?_⟩
  refine ⟨_, rfl, p, rfl, ⟨_, SqT.of hB.1⟩, for_tup (xs := us) (fun i σ H' => ∃ o1 o2 o3 o4, σ = [some (.ref p), o1, o2, o3, o4] ∧ Same H H' ∧ bentB (es.drop i) = bentB es) ?_ ?_ ?_ ?_⟩
  · exact ⟨_, _, _, _, rfl, Same.refl _, rfl⟩
  · rintro i σ H' _ ⟨o1, o2, o3, o4, rfl, s1, _⟩
    exact SqT.of (s1 _ _ hB.1)
  · rintro i x σ H1 hx ⟨o1, o2, o3, o4, rfl, s1, hb⟩
    obtain ⟨e, he, qa, r, b, rfl, g1, g2, g3⟩ := hB.2.get hx
    have hee := mem_of_get he
    obtain ⟨hi, hi2⟩ := List.getElem?_eq_some_iff.mp he
    have hdr : es.drop i = e :: es.drop (i + 1) := by rw [List.drop_eq_getElem_cons hi, hi2]
    refine ⟨qa, _, rfl, SqT.of (s1 _ _ g1), rfl, _, _, rfl, _, _, rfl, _, _, rfl, rfl, ?_⟩
    refine ⟨_, rfl, _, rfl, e.1, b, e.2.2, rfl, g3.tk (tk_same s1), hc e hee, fun v H2 s2 hv => ?_⟩
    have s12 := s1.trans s2
    rw [hdr] at hb
    cases hh : (bentL e.2.2 "home").head? with
    | none =>
      rw [hh] at hv
      have hv' : v = .non := hv
      subst hv'
      rw [bentB_none hh] at hb
      exact ⟨_, rfl, rfl, _, rfl, itF rfl ⟨_, _, _, _, rfl, s12, hb⟩⟩
    | some ks =>
      rw [hh] at hv
      obtain ⟨rr, rfl, hr2⟩ : PlS H2 (e.1, ks) v := hv
      rw [bentB_some hh] at hb
      refine ⟨_, rfl, rfl, _, rfl, itT (by rw [decide_eq_false (by intro z; cases z)]; rfl) ⟨_, rfl, q _ _ s12 ?_⟩⟩
      rw [← hb]
      exact ⟨rr, rfl, hr2⟩
  · rintro σ H1 ⟨o1, o2, o3, o4, rfl, s1, hb⟩
    refine q _ _ s1 ?_
    rw [← hb, hB.2.len, List.drop_length]
    rfl
end
end KB

namespace KB
open PySem L2 HT LamX NdefX

/-! ### straight ones -/
theorem map_nil' {α β : Type} {f : α → β} {l : List α} (h : l.map f = []) : l = [] := List.map_eq_nil_iff.mp h
theorem bent_one {q : Pt} {k : Int} {d : Str} (h : (bentL q d).map (fun e => k :: e) ++ [] = []) : bentL q d = [] := by
  rw [List.append_nil] at h
  exact map_nil' h
theorem bent_two {q u : Pt} {k k' : Int} {d d' : Str} (h : (bentL q d).map (fun e => k :: e) ++ ((bentL u d').map (fun e => k' :: e) ++ []) = []) : bentL q d = [] ∧ bentL u d' = [] := by
  obtain ⟨a, b⟩ := List.append_eq_nil_iff.mp h
  exact ⟨map_nil' a, bent_one b⟩
theorem one_nil {q : Pt} {k : Int} {d : Str} (h : bentL q d = []) : (bentL q d).map (fun e => k :: e) ++ [] = [] := by rw [h]; rfl
theorem two_nil {q u : Pt} {k k' : Int} {d d' : Str} (h : bentL q d = []) (h' : bentL u d' = []) : (bentL q d).map (fun e => k :: e) ++ ((bentL u d').map (fun e => k' :: e) ++ []) = [] := by rw [h, h']; rfl
theorem due_give {i d : Str} (h : (if i = d then [] else [[]] : List (List Int)) = []) : i = d := by
  by_cases c : i = d
  · exact c
  · rw [if_neg c] at h; cases h
theorem ends_due : ∀ {p : Pt} {d : Str}, bentL p d = [] → d ∈ endsP p
  | .give i t, d, h => List.mem_singleton.mpr (due_give h).symm
  | .ask f ts i, d, h => List.mem_singleton.mpr (due_give h).symm
  | .tell x t p, d, h => List.mem_append_left _ (ends_due (p := p) (bent_one h))
  | .lett x t p, d, h => List.mem_append_left _ (ends_due (p := p) (bent_one h))
  | .iff t p q, d, h => List.mem_append_left _ (ends_due (p := p) (bent_two h).1)
  | .post j x p q, d, h => List.mem_append_left _ (ends_due (p := p) (bent_two h).1)
theorem ren_straight {j k : Str} : ∀ {p : Pt} {d : Str}, bentL p d = [] → j ∉ jP p → bentL (renP j k p) (hnW j k d) = []
  | .give i t, d, h, _ => by rw [due_give h]; exact if_pos rfl
  | .ask f ts i, d, h, _ => by rw [due_give h]; exact if_pos rfl
  | .tell x t p, d, h, n => one_nil (ren_straight (p := p) (bent_one h) n)
  | .lett x t p, d, h, n => one_nil (ren_straight (p := p) (bent_one h) n)
  | .iff t p q, d, h, n => two_nil (ren_straight (bent_two h).1 fun z => n (List.mem_append_left _ z)) (ren_straight (bent_two h).2 fun z => n (List.mem_append_right _ z))
  | .post i x p q, d, h, n => by
    have hi : i ≠ j := fun z => n (by rw [← z]; exact List.mem_cons_self)
    have a := ren_straight (j := j) (k := k) (bent_two h).2 fun z => n (List.mem_cons_of_mem _ (List.mem_append_right _ z))
    rw [show hnW j k i = i from if_neg hi] at a
    exact two_nil (ren_straight (bent_two h).1 fun z => n (List.mem_cons_of_mem _ (List.mem_append_left _ z))) a
theorem slim_straight : ∀ {p : Pt} {d : Str}, bentL p d = [] → (jP p).Nodup → bentL (slimP p) d = []
  | .give _ _, _, h, _ => h
  | .ask _ _ _, _, h, _ => h
  | .tell x t p, d, h, n => one_nil (slim_straight (p := p) (bent_one h) n)
  | .lett x t p, d, h, n => one_nil (slim_straight (p := p) (bent_one h) n)
  | .iff t p q, d, h, n => two_nil (slim_straight (bent_two h).1 (List.nodup_append.mp n).1) (slim_straight (bent_two h).2 (List.nodup_append.mp n).2.1)
  | .post j x p q, d, h, n => by
    have nd' : (j :: (jP p ++ jP q)).Nodup := n
    obtain ⟨n1, n2⟩ := List.nodup_cons.mp nd'
    have ip := slim_straight (bent_two h).1 (List.nodup_append.mp n2).1
    have iq := slim_straight (bent_two h).2 (List.nodup_append.mp n2).2.1
    have jq : j ∉ jP (slimP q) := fun z => n1 (List.mem_append_right _ ((sub_slim q).2.subset z))
    show bentL (slim1 (.post j x (slimP p) (slimP q))) d = []
    generalize slimP p = p' at ip
    have hj : handed j (slimP q) = true := by rw [handed_ends]; exact decide_eq_true (ends_due iq)
    have keep : bentL (.post j x p' (slimP q)) d = [] := two_nil ip iq
    cases p' with
    | give k t =>
      by_cases c : passed (.give k t) x = true
      · rw [show slim1 (.post j x (.give k t) (slimP q)) = renP j k (slimP q) from if_pos c]
        have := ren_straight (j := j) (k := k) iq jq
        rw [show hnW j k j = k from if_pos rfl, due_give ip] at this
        rw [due_give ip]
        exact this
      · rw [show slim1 (.post j x (.give k t) (slimP q)) = if handed j (slimP q) = true then .post j x (.give k t) (slimP q) else slimP q from if_neg c, if_pos hj]
        exact keep
    | _ => exact (congrArg (bentL · d) (if_pos hj)).trans keep
theorem bentB_nil : ∀ {es : List TEr}, bentB es = none ↔ ∀ e ∈ es, bentL e.2.2 "home" = []
  | [] => ⟨(fun _ _ z => nomatch z), fun _ => rfl⟩
  | e :: r => by
    constructor
    · intro h
      cases hb : (bentL e.2.2 "home").head? with
      | some ks => rw [bentB_some hb] at h; cases h
      | none =>
        rw [bentB_none hb] at h
        intro x hx
        rcases List.mem_cons.mp hx with z | z
        · rw [z]; exact List.head?_eq_none_iff.mp hb
        · exact bentB_nil.mp h x z
    · intro h
      rw [bentB_none (by rw [h e List.mem_cons_self]; rfl)]
      exact bentB_nil.mpr fun x hx => h x (List.mem_cons_of_mem _ hx)
theorem slim_bent {es : List TEr} (hG : ∀ e ∈ es, (jP e.2.2).Nodup) (h : bentB es = none) : bentB (es.map slimE) = none := by
  rw [bentB_nil] at h ⊢
  intro x hx
  obtain ⟨e, he, rfl⟩ := List.mem_map.mp hx
  exact slim_straight (h e he) (hG e he)
/-! ### what a run tells as data -/
def pdEv : Ev → PyData
  | .ask f ns => .tuple [.str "ask", .str f, .tuple (ns.map PyData.int)]
  | .tell z => .tuple [.str "tell", .int z]
def pdFe : Fe → PyData
  | .no => .none
  | .done z => .tuple [.str "done", .int z]
  | .long => .tuple [.str "long"]
def evOk : Ev → Prop
  | .ask f _ => PySem.PyData.strOk f = true
  | .tell _ => True
theorem dp_ints' {K : PySem.W.Frag} {H : Hp} : ∀ ns : List Int, DpAll K H (ns.map V.int) (ns.map PyData.int)
  | [] => .nil
  | n :: r => .cons (.int n) (dp_ints' r)
theorem dp_ev {K : PySem.W.Frag} {H : Hp} {e : Ev} {v : V} (h : EvV H e v) : Dp K H v (pdEv e) := by
  cases e with
  | ask f ns => obtain ⟨q, r, rfl, h1, h2⟩ := h; exact .tup (SqT.of h1) (.cons (.str _) (.cons (.str _) (.cons (.tup (SqT.of h2) (dp_ints' ns)) .nil)))
  | tell z => obtain ⟨q, rfl, h1⟩ := h; exact .tup (SqT.of h1) (.cons (.str _) (.cons (.int _) .nil))
theorem dp_evs {K : PySem.W.Frag} {H : Hp} : ∀ {es : List Ev} {vs : List V}, All2 (EvV H) es vs → DpAll K H vs (es.map pdEv)
  | [], [], _ => .nil
  | e :: es, v :: vs, h => .cons (dp_ev h.1) (dp_evs h.2)
  | [], _ :: _, h => h.elim
  | _ :: _, [], h => h.elim
theorem dp_fe {K : PySem.W.Frag} {H : Hp} {f : Fe} {v : V} (h : FeV H f v) : Dp K H v (pdFe f) := by
  cases f with
  | no => rw [show v = .non from h]; exact .non
  | done z => obtain ⟨q, rfl, h1⟩ := h; exact .tup (SqT.of h1) (.cons (.str _) (.cons (.int _) .nil))
  | long => obtain ⟨q, rfl, h1⟩ := h; exact .tup (SqT.of h1) (.cons (.str _) .nil)
theorem lay_int (z : Int) : (PyData.int z).canLay0 = true := rfl
theorem shaped_run {tr : List Ev} {f : Fe} (h : ∀ e ∈ tr, evOk e) : SeqAt.shaped (.tuple [.list (tr.map pdEv), pdFe f]) = true := by
  have dint : ∀ {m : Nat} {z : Int}, (PyData.int z).depth ≤ m := fun {m z} => Nat.zero_le m
  refine shaped_of (lay_cons (layAll fun d hd => ?_) (lay_cons ?_ rfl)) (Nat.le_trans (depth_tup (m := 4) fun d hd => ?_) (by decide))
  · obtain ⟨e, he, rfl⟩ := List.mem_map.mp hd
    cases e with
    | ask g ns => exact lay_cons (lay_lit (by decide +kernel)) (lay_cons (lay_lit (h _ he)) (lay_cons (layAll fun d hd => by
        obtain ⟨z, _, rfl⟩ := List.mem_map.mp hd
        rfl) rfl))
    | tell z => exact lay_cons (lay_lit (by decide +kernel)) (lay_cons rfl rfl)
  · cases f with
    | no => rfl
    | done z => exact lay_cons (lay_lit (by decide +kernel)) (lay_cons rfl rfl)
    | long => exact lay_cons (lay_lit (by decide +kernel)) rfl
  · rcases List.mem_cons.mp hd with z | z
    · rw [z]
      refine depth_lst (m := 3) fun d hd => ?_
      obtain ⟨e, he, rfl⟩ := List.mem_map.mp hd
      cases e with
      | ask g ns =>
        refine depth_tup (m := 2) fun d hd => ?_
        simp only [List.mem_cons, List.not_mem_nil, or_false] at hd
        rcases hd with y | y | y <;> subst y
        · exact dep_str
        · exact dep_str
        · exact Nat.le_trans (depth_tup (m := 0) fun d hd => by
            obtain ⟨z, _, rfl⟩ := List.mem_map.mp hd
            exact Nat.le_refl 0) (by decide)
      | tell z =>
        refine depth_tup (m := 2) fun d hd => ?_
        simp only [List.mem_cons, List.not_mem_nil, or_false] at hd
        rcases hd with y | y <;> subst y
        · exact dep_str
        · exact dint
    · rw [List.mem_singleton.mp z]
      cases f with
      | no => exact Nat.zero_le _
      | done z =>
        refine depth_tup (m := 3) fun d hd => ?_
        simp only [List.mem_cons, List.not_mem_nil, or_false] at hd
        rcases hd with y | y <;> subst y
        · exact dep_str
        · exact dint
      | long =>
        refine depth_tup (m := 3) fun d hd => ?_
        rw [List.mem_singleton.mp hd]
        exact dep_str
theorem ask_ok {es : List TEr} (hw : ∀ e ∈ es, isW e.1 = true) {c : CT} {f : Str} {ns : List Int} {i : Nat} (h : ∀ e ∈ c.trail, evOk e) : ∀ e ∈ (askT es c f ns i).trail, evOk e := by
  unfold askT
  split
  · exact h
  · cases hf : es.find? (fun e => decide (e.1 = f)) with
    | none => exact h
    | some er =>
      intro e he
      rcases List.mem_append.mp he with z | z
      · exact h e z
      · rw [List.mem_singleton.mp z]
        have e1 := List.find?_some hf
        have e2 : er.1 = f := of_decide_eq_true e1
        show PySem.PyData.strOk f = true
        rw [← e2]
        exact isW_ok (hw er (List.mem_of_find?_eq_some hf))
theorem step_ok {es : List TEr} (hw : ∀ e ∈ es, isW e.1 = true) {c : CT} (h : ∀ e ∈ c.trail, evOk e) : ∀ e ∈ (stepT es c).trail, evOk e := by
  cases hp : c.part with
  | give j t =>
    rw [st_give hp]
    split
    · exact h
    · split <;> exact h
  | ask f ts j => rw [st_ask hp]; exact ask_ok hw h
  | tell x t p =>
    rw [st_tell hp]
    intro e he
    rcases List.mem_append.mp he with z | z
    · exact h e z
    · rw [List.mem_singleton.mp z]; exact trivial
  | lett x t p => rw [st_let hp]; exact h
  | iff t p q => rw [st_iff hp]; exact h
  | post j x p q => rw [st_post hp]; exact h
theorem end_ok {es : List TEr} (hw : ∀ e ∈ es, isW e.1 = true) {m : Nat} {f : Str} {ns : List Int} {c : CT} (h : RunEnd es m f ns c) : ∀ e ∈ c.trail, evOk e := by
  have go : ∀ {a b : CT}, RchT es a b → (∀ e ∈ a.trail, evOk e) → ∀ e ∈ b.trail, evOk e := by
    intro a b r
    induction r with
    | refl => exact id
    | snoc _ _ ih => exact fun h => step_ok hw (ih h)
  exact go h.1 (ask_ok hw (fun _ z => nomatch z))
/-! ### _law_first_runs -/
def RunQ (H : Hp) (x : TEr × List Int × Nat) (v : V) : Prop := ∃ q nb, v = .ref q ∧ H q = some (.tup [.str x.1.1, .ref nb, .int (x.2.2 : Int)]) ∧ H nb = some (.tup (x.2.1.map V.int))
theorem RunQ.tk {H H' : Hp} (t : TK H H') {x : TEr × List Int × Nat} {v : V} (h : RunQ H x v) : RunQ H' x v := let ⟨q, nb, e, h1, h2⟩ := h; ⟨q, nb, e, t _ _ h1, t _ _ h2⟩
structure RqOk (es : List TEr) (x : TEr × List Int × Nat) : Prop where
  m : x.1 ∈ es
  l : x.1.2.1.length = x.2.1.length
  b : x.2.2 ≤ 3000
def mostL : List V := [.int 40, .int 0, .int 1, .int 3, .int 12, .int 40]
section
variable {P : Program} {w : World} {K : PySem.W.Frag} {mg : Str → Option Value} {base : Heap}
def spFR (K : PySem.W.Frag) : Sp := fun vs H Q _ => ∃ (sc p : Addr) (ns : List Int) (es : List TEr) (us : List V), vs = [.ref sc, .ref p] ∧ SqL K H sc (ns.map V.int) ∧ TBkAt H es us p ∧ es.length ≤ 6 ∧ (∀ e ∈ es, e.2.1.length ≤ 4) ∧
  ∀ r H' qs its, Same H H' → H' r = some (.lst its) → All2 (RunQ H') qs its → (∀ x ∈ qs, RqOk es x) → Q (.ref r) H'
abbrev s_law_first_runs : Stmt := top 44
theorem scLfirst_runs : FnScope ["script", "turned", "tape", "found", "name", "names", "body", "most"] ["script", "turned"] (defScope s_law_first_runs) := ⟨rfl, rfl, rfl, by decide +kernel, rfl, by decide +kernel, by decide +kernel⟩
theorem ok_fr (T : Txt K mg) {f f1 f2 f3 : Addr} {fd d1 d2 d3 : FuncData} (F : Fun K "_law_first_runs" "_law_first_runs" s_law_first_runs f fd) (G_law_tape : FnOk P w K mg base CX0 2 f1 d1 ["script", "k"] (spTape K)) (R_law_tape : Ref K mg "_law_tape" f1 d1 ["script", "k"])
    (G_law_digit : FnOk P w K mg base CX0 1 f2 d2 ["tape", "many"] spDig) (R_law_digit : Ref K mg "_law_digit" f2 d2 ["tape", "many"]) (G_law_numbers : FnOk P w K mg base CX0 2 f3 d3 ["tape", "many"] spNums) (R_law_numbers : Ref K mg "_law_numbers" f3 d3 ["tape", "many"]) : FnOk P w K mg base CX0 3 f fd ["script", "turned"] (spFR K) := by
  refine F.ok scLfirst_runs (fun vs H Q E h => ?_) (fun cdv A outer s H vs Q E hr h => ?_)
  · obtain ⟨sc, p, ns, es, us, rfl, _⟩ := h
    rfl
  obtain ⟨sc, p, ns, es, us, rfl, hS, hB, hl6, hn4, q⟩ := h
  refine ⟨_, (pss_cons (ps_set (i := 2) scLfirst_runs.nd rfl (Or.inl rfl) (pe_call G_law_tape (hr.mono (by omega)) rfl R_law_tape.m R_law_tape.k R_law_tape.b .nil pass0 (pa_cons (pv 0) (pa_cons pe_int pa_nil))))
    (pss_cons (ps_set (i := 3) scLfirst_runs.nd rfl (Or.inl rfl) (pe_lst pa_nil))
    (pss_cons (ps_for PassesOwn.never rfl (pi_tup (pv 1)) (pg_tup rfl (pgs_cons (pg_name (i := 4) scLfirst_runs.nd rfl (Or.inl rfl)) (pgs_cons (pg_name (i := 5) scLfirst_runs.nd rfl (Or.inl rfl)) (pgs_cons (pg_name (i := 6) scLfirst_runs.nd rfl (Or.inl rfl)) pgs_nil)))) (pss_cons (ps_set (i := 7) scLfirst_runs.nd rfl (Or.inl rfl) (pe_ix ix_list (pe_lst (pa_cons pe_int (pa_cons pe_int (pa_cons pe_int (pa_cons pe_int (pa_cons pe_int (pa_cons pe_int pa_nil))))))) (pe_call G_law_digit (hr.mono (by omega)) rfl R_law_digit.m R_law_digit.k R_law_digit.b .nil pass0 (pa_cons (pv 2) (pa_cons pe_int pa_nil))) (fun _ _ => rfl)))
    (pss_one (ps_expr (pe_bm PySem.F.plainAttrs_list PySem.F.slot_list_append PySem.F.type_list_append mt_append (pv 3) (pa_cons (pe_tup (pa_cons (pv 4) (pa_cons (pe_call G_law_numbers (hr.mono (by omega)) rfl R_law_numbers.m R_law_numbers.k R_law_numbers.b .nil pass0 (pa_cons (pv 2) (pa_cons (pe_callB call_len_seq (by rfl) T.m_len PySem.boot_len (pa_cons (pv 5) pa_nil)) pa_nil))) (pa_cons (pv 7) pa_nil)))) pa_nil))))))
    (pss_one (ps_ret (pv 3)))))), ?_⟩
  refine ⟨_, rfl, sc, ns, 7, rfl, hS, by decide, by decide, fun hp z0 hhp => ?_⟩
  have s1 := same_new hhp (.lst [.int z0])
  have t1 : Tp (upd H hp (.lst [.int z0])) hp := ⟨z0, upd_same⟩
  generalize upd H hp (.lst [.int z0]) = H1 at s1 t1
  refine ⟨sz (by show 0 ≤ 100000; decide), fun fl hfl => ?_⟩
  have s2 := same_new hfl (.lst [])
  have s12 := s1.trans s2
  have hul := hB.2.len
  have nfp : fl ≠ hp := by
    obtain ⟨z, hz⟩ := id t1
    intro y
    rw [y, hz] at hfl
    cases hfl
  have hfl0 : H fl = none := by
    cases e : H fl with
    | none => rfl
    | some o => rw [s1 _ _ e] at hfl; cases hfl
  refine ⟨_, rfl, p, rfl, ⟨_, SqT.of (s12 _ _ hB.1)⟩, for_tup (xs := us) (fun i σ H' => ∃ o4 o5 o6 o7 its qs, σ = [some (.ref sc), some (.ref p), some (.ref hp), some (.ref fl), o4, o5, o6, o7] ∧ Same H H' ∧ Tp H' hp ∧ H' fl = some (.lst its) ∧ All2 (RunQ H') qs its ∧ qs.length = i ∧ ∀ x ∈ qs, RqOk es x)
    ⟨_, _, _, _, [], [], rfl, s12, t1.same s2, upd_same, trivial, rfl, fun _ z => nomatch z⟩ ?_ ?_ ?_⟩
  · rintro i σ H' _ ⟨o4, o5, o6, o7, its, qs, rfl, s3, _⟩
    exact SqT.of (s3 _ _ hB.1)
  · rintro i x σ H3 hx ⟨o4, o5, o6, o7, its, qs, rfl, s3, t3, h3, k3, l3, w3⟩
    obtain ⟨e, he, qa, r, b, rfl, g1, g2, g3⟩ := hB.2.get hx
    have hee := mem_of_get he
    have hix := (List.getElem?_eq_some_iff.mp hx).1
    have hn := hn4 e hee
    have hil := k3.len
    refine ⟨qa, _, rfl, SqT.of (s3 _ _ g1), rfl, _, _, rfl, _, _, rfl, _, _, rfl, rfl, ?_⟩
    -- most
    refine ⟨sz (by show 6 ≤ 100000; decide), fun lp hlp => ?_⟩
    have s4 := same_new hlp (.lst mostL)
    have nlp : lp ≠ hp := by
      obtain ⟨z, hz⟩ := id t3
      intro y
      rw [y, hz] at hlp
      cases hlp
    refine ⟨_, rfl, hp, 6, rfl, t3.same s4, by decide, by decide, fun r5 H5 r5a r5b b5 t5 => ?_⟩
    obtain ⟨v, hv, hm⟩ := at_some (xs := mostL) r5a r5b
    obtain ⟨mo, rfl, hmo⟩ : ∃ mo : Nat, v = .int (mo : Int) ∧ mo ≤ 3000 := by
      simp only [mostL, List.mem_cons, List.not_mem_nil, or_false] at hm
      rcases hm with z | z | z | z | z | z <;> subst z
      · exact ⟨40, rfl, by decide⟩
      · exact ⟨0, rfl, by decide⟩
      · exact ⟨1, rfl, by decide⟩
      · exact ⟨3, rfl, by decide⟩
      · exact ⟨12, rfl, by decide⟩
      · exact ⟨40, rfl, by decide⟩
    refine ⟨lp, _, _, _, rfl, rfl, SqL.of (b5 _ _ nlp upd_same), hv, ?_⟩
    have b35 : But1 hp H3 H5 := (but_same s4).trans b5
    have s5 : Same H H5 := fun x o hx => b35 _ _ (fun y => by rw [y] at hx; rw [hx] at hhp; cases hhp) (s3 _ _ hx)
    have h5 := b35 _ _ nfp h3
    have tk35 := But1.tk t3 b35
    -- append
    refine ⟨_, rfl, .inl ⟨rfl, _, SqL.of h5⟩, _, rfl, _, rfl, _, rfl, r, _, rfl, .inr (SqT.of (s5 _ _ g2)), hp, e.2.1.length, (by show [V.ref hp, .int (((e.2.1.map V.str).length : Nat) : Int)] = _; rw [List.length_map]), t5, by omega, fun nb H6 ms hnb b6 t6 h6 ml _ => ?_⟩
    have tk6 := But1.tk t5 b6
    have s6 : Same H H6 := fun x o hx => b6 _ _ (fun y => by rw [y] at hx; rw [hx] at hhp; cases hhp) (s5 _ _ hx)
    have h66 := b6 _ _ nfp h5
    refine ⟨_, rfl, sz (by show 3 ≤ 100000; decide), fun t7 ht7 => ?_⟩
    have s7 := same_new ht7 (.tup [.str e.1, .ref nb, .int (mo : Int)])
    have h7 := s7 _ _ h66
    have tkm := tk_put (o := .lst (its ++ [.ref t7])) h7
    have tk7 := tk35.trans (tk6.trans ((tk_same s7).trans tkm))
    refine ⟨fl, _, _, rfl, rfl, h7, Nat.lt_of_le_of_lt (m := 6) (by omega) (by decide), _, _, _, _, its ++ [.ref t7], qs ++ [(e, ms, mo)], rfl, same_mut (s6.trans s7) hfl0, ?_, upd_same, ?_, by rw [List.length_append, l3]; rfl, ?_⟩
    · obtain ⟨z, hz⟩ := t6.same s7
      exact ⟨z, by rw [upd_ne nfp.symm]; exact hz⟩
    · exact (k3.imp fun _ _ z => RunQ.tk tk7 z).app ⟨⟨t7, nb, rfl, tkm _ _ upd_same, tkm _ _ (s7 _ _ h6)⟩, trivial⟩
    · intro y hy
      rcases List.mem_append.mp hy with z | z
      · exact w3 y z
      · rw [List.mem_singleton.mp z]
        exact ⟨hee, ml.symm, hmo⟩
  · rintro σ H3 ⟨o4, o5, o6, o7, its, qs, rfl, s3, t3, h3, k3, l3, w3⟩
    exact ⟨_, rfl, q fl H3 qs its s3 h3 k3 w3⟩
/-! ### law -/
def spLawT (K : PySem.W.Frag) (T : List (Addr × Str)) : Sp := fun vs H Q _ => ∃ (a : Addr) (ns : List Int), vs = [.ref a] ∧ SqL K H a (ns.map V.int) ∧ ns.length ≤ 63 ∧ Tabs T H ∧ ∀ H', Q (.bl true) H'
abbrev slaw : Stmt := top 45
theorem sclaw : FnScope ["script", "turned", "found", "f", "numbers", "most", "one", "other"] ["script"] (defScope slaw) := ⟨rfl, rfl, rfl, by decide +kernel, rfl, by decide +kernel, by decide +kernel⟩
structure Cal (P : Program) (w : World) (K : PySem.W.Frag) (mg : Str → Option Value) (base : Heap) (x : Str) (ps : List Str) (k : Nat) (sp : Sp) : Prop where
  c : ∃ f fd, FnOk P w K mg base CX0 k f fd ps sp ∧ Ref K mg x f fd ps
theorem opt_none {H : Hp} {o : Option (Str × List Int)} {v : V} (h : OptP H o v) : v = .non ↔ o = none := by
  cases o with
  | none => exact ⟨fun _ => rfl, fun _ => h⟩
  | some x =>
    obtain ⟨r, e, _⟩ := h
    exact ⟨(fun z => by rw [z] at e; cases e), (fun z => nomatch z)⟩
theorem Sx.seq {K : PySem.W.Frag} {H H' : Hp} {a : Addr} {xs : List V} (e : Sx H H') (h : SqL K H a xs) : SqL K H' a xs := by
  rcases h with (h | ⟨o, h⟩) | h
  · exact .inl (.inl (e.l h))
  · exact .inl (.inr ⟨o, e.1 _ _ h fun _ z => nomatch z⟩)
  · exact .inr h
theorem TBkAt.tk {H H' : Hp} (t : TK H H') {es : List TEr} {vs : List V} {p : Addr} (h : TBkAt H es vs p) : TBkAt H' es vs p := ⟨t _ _ h.1, h.2.imp fun _ _ z => z.tk t⟩
theorem tabs_but {T : List (Addr × Str)} {tp : Addr} {H H' : Hp} (t : Tabs T H) (b : But1 tp H H') (h : Tp H tp) : Tabs T H' := fun p hp => by
  obtain ⟨c, hc⟩ := h
  obtain ⟨ps, h1, h2, h3⟩ := t p hp
  refine ⟨ps, b _ _ (fun z => ?_) h1, h2, fun pos cv hcv => ?_⟩
  · rw [z, hc] at h1
    cases h1
  · obtain ⟨d, e, hd⟩ := h3 pos cv hcv
    refine ⟨d, e, b _ _ (fun z => ?_) hd⟩
    rw [z, hc] at hd
    exact nomatch (Option.some.inj hd)
theorem ok_law (T : Txt K mg) {TT : List (Addr × Str)} {f : Addr} {fd : FuncData} (F : Fun K "law" "law" slaw f fd)
    (c1 : Cal P w K mg base "_law_tape" ["script", "k"] 2 (spTape K)) (c2 : Cal P w K mg base "_law_turned_book" ["script", "start", "straight"] 17 (spTBook K)) (c3 : Cal P w K mg base "_law_digit" ["tape", "many"] 1 spDig)
    (c4 : Cal P w K mg base "_law_first_runs" ["script", "turned"] 3 (spFR K)) (c5 : Cal P w K mg base "_law_turned_run" ["turned", "f", "numbers", "most"] 66 spLRunT) (c6 : Cal P w K mg base "slim" ["turned"] 12 (spSlim TT))
    (c7 : Cal P w K mg base "_law_good" ["turned"] 19 spGood) (c8 : Cal P w K mg base "bent_at" ["turned"] 3 spBentAt) : FnOk P w K mg base CX0 67 f fd ["script"] (spLawT K TT) := by
  obtain ⟨f1, d1, G_law_tape, R_law_tape⟩ := c1.c
  obtain ⟨f2, d2, G_law_turned_book, R_law_turned_book⟩ := c2.c
  obtain ⟨f3, d3, G_law_digit, R_law_digit⟩ := c3.c
  obtain ⟨f4, d4, G_law_first_runs, R_law_first_runs⟩ := c4.c
  obtain ⟨f5, d5, G_law_turned_run, R_law_turned_run⟩ := c5.c
  obtain ⟨f6, d6, Gslim, Rslim⟩ := c6.c
  obtain ⟨f7, d7, G_law_good, R_law_good⟩ := c7.c
  obtain ⟨f8, d8, Gbent_at, Rbent_at⟩ := c8.c
  refine F.ok sclaw (fun vs H Q E h => ?_) (fun cdv A outer s H vs Q E hr h => ?_)
  · obtain ⟨a, ns, rfl, _⟩ := h
    rfl
  obtain ⟨sc, ns, rfl, hS, _, hTT, q⟩ := h
  refine ⟨_, (pss_cons (ps_set (i := 1) sclaw.nd rfl (Or.inl rfl) (pe_call G_law_turned_book (hr.mono (by omega)) rfl R_law_turned_book.m R_law_turned_book.k R_law_turned_book.b .nil pass0 (pa_cons (pv 0) (pa_cons pe_int (pa_cons (pe_cmpR op_eq (pe_call G_law_digit (hr.mono (by omega)) rfl R_law_digit.m R_law_digit.k R_law_digit.b .nil pass0 (pa_cons (pe_call G_law_tape (hr.mono (by omega)) rfl R_law_tape.m R_law_tape.k R_law_tape.b .nil pass0 (pa_cons (pv 0) (pa_cons pe_int pa_nil))) (pa_cons pe_int pa_nil))) pe_int (nomark _)) pa_nil)))))
    (pss_cons (ps_set (i := 2) sclaw.nd rfl (Or.inl rfl) (pe_call Gslim (hr.mono (by omega)) rfl Rslim.m Rslim.k Rslim.b .nil pass0 (pa_cons (pv 1) pa_nil)))
    (Evl.pss_cut (ps_if (PW.pt (pw_or (pt_not (pt_val (pe_call G_law_good (hr.mono (by omega)) rfl R_law_good.m R_law_good.k R_law_good.b .nil pass0 (pa_cons (pv 2) pa_nil)))) (pw_or1 (PW.pt (pw_and (pt_cmpR op_isN (pe_call Gbent_at (hr.mono (by omega)) rfl Rbent_at.m Rbent_at.k Rbent_at.b .nil pass0 (pa_cons (pv 1) pa_nil)) pe_non (nomark _)) (pw_and1 (pt_cmpR op_notN (pe_call Gbent_at (hr.mono (by omega)) rfl Rbent_at.m Rbent_at.k Rbent_at.b .nil pass0 (pa_cons (pv 2) pa_nil)) pe_non (nomark _)))))))) (pss_one (ps_ret pe_bl)) pss_nil)
    (pss_cons (ps_for PassesOwn.never rfl (pi_list (pe_call G_law_first_runs (hr.mono (by omega)) rfl R_law_first_runs.m R_law_first_runs.k R_law_first_runs.b .nil pass0 (pa_cons (pv 0) (pa_cons (pv 1) pa_nil)))) (pg_tup rfl (pgs_cons (pg_name (i := 3) sclaw.nd rfl (Or.inl rfl)) (pgs_cons (pg_name (i := 4) sclaw.nd rfl (Or.inl rfl)) (pgs_cons (pg_name (i := 5) sclaw.nd rfl (Or.inl rfl)) pgs_nil)))) (pss_cons (ps_set (i := 6) sclaw.nd rfl (Or.inl rfl) (pe_call G_law_turned_run (hr.mono (by omega)) rfl R_law_turned_run.m R_law_turned_run.k R_law_turned_run.b .nil pass0 (pa_cons (pv 1) (pa_cons (pv 3) (pa_cons (pv 4) (pa_cons (pv 5) pa_nil))))))
    (pss_cons (ps_set (i := 7) sclaw.nd rfl (Or.inl rfl) (pe_call G_law_turned_run (hr.mono (by omega)) rfl R_law_turned_run.m R_law_turned_run.k R_law_turned_run.b .nil pass0 (pa_cons (pv 2) (pa_cons (pv 3) (pa_cons (pv 4) (pa_cons (pv 5) pa_nil))))))
    (pss_one (ps_if (PW.pt (pw_or (pt_cmpR (op_neD hr.units) (pe_slice sl_tupA (pv 6) po_none (po_some pe_int)) (pe_slice sl_tupA (pv 7) po_none (po_some pe_int)) (nomark _)) (pw_or (pt_cmpR op_gt (pe_ix ix_tup (pv 7) pe_int (fun _ _ => rfl)) (pe_ix ix_tup (pv 6) pe_int (fun _ _ => rfl)) (nomark _)) (pw_or1 (pt_cmpR op_gt (pe_ix ix_tup (pv 7) pe_int (fun _ _ => rfl)) (pe_ix ix_tup (pv 6) pe_int (fun _ _ => rfl)) (nomark _)))))) (pss_one (ps_ret pe_bl)) pss_nil)))))
    (pss_one (ps_ret pe_bl)))))), ?_⟩
  -- turned
  refine ⟨_, rfl, _, rfl, sc, ns, 0, rfl, hS, by decide, by decide, fun hp z0 hhp => ?_⟩
  have s1 := same_new hhp (.lst [.int z0])
  have t1 : Tp (upd H hp (.lst [.int z0])) hp := ⟨z0, upd_same⟩
  have T1 := tabs_new hTT s1
  generalize upd H hp (.lst [.int z0]) = H1 at s1 t1 T1
  refine ⟨hp, 2, rfl, t1, by decide, by decide, fun r0 H2 r0a r0b b2 t2 => ⟨rfl, ?_⟩⟩
  have s2 : Same H H2 := fun b o hb => b2 b o (ne_of_none hb hhp) (s1 b o hb)
  refine ⟨sc, ns, 1, _, rfl, s2.seq hS, by decide, by decide, fun p es us H3 s3 hB hG => ?_⟩
  have T3 := tabs_new (tabs_but T1 b2 t1) s3
  have hS3 := (s2.trans s3).seq hS
  obtain ⟨hF, hGe, hdom⟩ := hG.er
  have hl6 := hG.len.2
  have kpE : ∀ e ∈ es, kP e.2.2 ∧ ncnt e.2.2 ≤ 500 := fun e he => by
    have k := okP_kP (fun j hj => by rw [List.mem_singleton.mp hj]; decide +kernel) (hGe e he).ok
    exact ⟨k, by have := ncnt_le k; have := (hGe e he).cn; omega⟩
  clear b2 t2 s2 s1 t1 T1 hS hTT s3
  -- found
  refine ⟨_, rfl, p, es, us, rfl, hB, hl6, kpE, T3, fun fr H4 us4 s4 T4 hF4 => ?_⟩
  have hB4 := hB.tk s4.tk
  have hS4 := s4.seq hS3
  clear hB T3 hS3 s4
  have hGs : ∀ e ∈ es.map slimE, GdTE hF e := fun x hx => by
    obtain ⟨e, he, rfl⟩ := List.mem_map.mp hx
    exact (hGe e he).slim
  refine ⟨fun σ' H' => σ' = [some (.ref sc), some (.ref p), some (.ref fr), none, none, none, none, none] ∧ Same H4 H', ?_, ?_⟩
  · refine ⟨_, rfl, fr, _, _, rfl, hF4, hG.slim, fun H5 s5 => ⟨_, rfl, iteF ?_⟩⟩
    refine ⟨_, rfl, p, es, us, rfl, hB4.tk (tk_same s5), fun e he => by have := (hGe e he).cn; omega, fun v1 H6 s6 hv1 => ⟨rfl, _, rfl, ?_⟩⟩
    cases hb : bentB es with
    | some x =>
      rw [hb] at hv1
      refine itF (decide_eq_false fun z => ?_) ⟨rfl, s5.trans s6⟩
      rw [z] at hv1
      obtain ⟨_, e, _⟩ := hv1
      cases e
    | none =>
      rw [hb] at hv1
      refine itT (decide_eq_true hv1) ?_
      refine ⟨_, rfl, fr, _, _, rfl, (hF4.tk (tk_same s5)).tk (tk_same s6), fun e he => by have := (hGs e he).cn; omega, fun v2 H7 s7 hv2 => ⟨rfl, _, rfl, ?_⟩⟩
      rw [slim_bent (fun e he => (hGe e he).uj) hb] at hv2
      have e2 : v2 = .non := hv2
      rw [e2]
      exact itF rfl ⟨rfl, s5.trans (s6.trans s7)⟩
  rintro σ' H5 ⟨rfl, s5⟩
  have hB5 := hB4.tk (tk_same s5)
  have hF5 := hF4.tk (tk_same s5)
  have hS5 := s5.seq hS4
  clear hB4 hF4 hS4 s5 T4
  -- runs
  refine ⟨_, rfl, _, rfl, sc, p, ns, es, us, rfl, hS5, hB5, hl6, fun e he => (hGe e he).n4, fun ql H6 qs its s6 h6 k6 w6 => ?_⟩
  have hB6 := hB5.tk (tk_same s6)
  have hF6 := hF5.tk (tk_same s6)
  have hnd := hG.nd
  have hE : TEsOk es hF := ⟨fun e he => (hGe e he).rt, fun f n h => hdom f n h⟩
  have hE' : TEsOk (es.map slimE) hF := ⟨fun e he => (hGs e he).rt, fun f n h => by
    rw [List.map_map]
    exact hdom f n h⟩
  have hnd' : ((es.map slimE).map (·.1)).Nodup := by
    rw [List.map_map]
    exact hnd
  have hA : ∀ e ∈ es, SlR some e.2.2 (slimP e.2.2) := fun e he => slim_relE (hGe e he)
  have hw : ∀ e ∈ es, isW e.1 = true := fun e he => (hGe e he).w
  have hw' : ∀ e ∈ es.map slimE, isW e.1 = true := fun e he => (hGs e he).w
  refine ⟨ql, rfl, ⟨_, SqL.of h6⟩, for_list (K := K) (a := ql) (xs := its) (fun i σ H' => ∃ o3 o4 o5 o6 o7, σ = [some (.ref sc), some (.ref p), some (.ref fr), o3, o4, o5, o6, o7] ∧ Same H6 H') ⟨_, _, _, _, _, rfl, Same.refl _⟩ ?_ ?_ ?_⟩
  · rintro i σ H' _ ⟨o3, o4, o5, o6, o7, rfl, s7⟩
    exact SqL.of (s7 _ _ h6)
  · rintro i x σ H7 hx ⟨o3, o4, o5, o6, o7, rfl, s7⟩
    obtain ⟨⟨e, ms, mo⟩, he, qa, nb, rfl, g1, g2⟩ := k6.get hx
    obtain ⟨m1, m2, m3⟩ := w6 _ (mem_of_get he)
    have m1' : e ∈ es := m1
    have m2' : e.2.1.length = ms.length := m2
    have m3' : mo ≤ 3000 := m3
    have g2' : H6 nb = some (.tup (ms.map V.int)) := g2
    have hn4 := (hGe e m1').n4
    refine ⟨qa, _, rfl, SqT.of (s7 _ _ g1), rfl, _, _, rfl, _, _, rfl, _, _, rfl, rfl, ?_⟩
    refine ⟨_, rfl, _, rfl, _, rfl, _, rfl, p, nb, es, us, hF, e, ms, mo, rfl, hB6.tk (tk_same s7), hnd, hl6, hE, m1', m2', s7 _ _ g2', by omega, m3', fun H8 q1 tl1 tv1 ev1 c1 s8 a1 a2 a3 a4 _ r1 => ?_⟩
    have s78 := s7.trans s8
    refine ⟨_, rfl, _, rfl, _, rfl, _, rfl, fr, nb, es.map slimE, us4, hF, slimE e, ms, mo, rfl, hF6.tk (tk_same s78), hnd', by rw [List.length_map]; exact hl6, hE', List.mem_map.mpr ⟨e, m1', rfl⟩, m2', s78 _ _ g2', by omega, m3', fun H9 q2 tl2 tv2 ev2 c2 s9 b1 b2 b3 b4 _ r2 => ?_⟩
    have hs := slim_runs hA (f := e.1) (by rw [List.find?_isSome]; exact ⟨e, m1', decide_eq_true rfl⟩) r1 r2
    have ok1 := end_ok hw r1
    -- slices
    refine ⟨_, rfl, ?_⟩
    dsimp only [tNoPart, tPart]
    refine ⟨2, rfl, slA_of (K := K) (lo := none) (hi := some 2) (s9 _ _ a1) fun p1 HA sA gA => ?_⟩
    rw [show cutV [V.ref tl1, ev1, .int c1.deepest, .int c1.made] none (some 2) = [V.ref tl1, ev1] from cut_to (by decide) (by show 2 ≤ 4; decide)] at gA
    refine ⟨_, rfl, ?_⟩
    dsimp only [tNoPart, tPart]
    refine ⟨2, rfl, slA_of (K := K) (lo := none) (hi := some 2) (sA _ _ b1) fun p2 HB sB gB => ?_⟩
    rw [show cutV [V.ref tl2, ev2, .int c2.deepest, .int c2.made] none (some 2) = [V.ref tl2, ev2] from cut_to (by decide) (by show 2 ≤ 4; decide)] at gB
    have sAB := sA.trans sB
    have s9B := s9.trans sAB
    have hsh := shaped_run (f := c1.fin) ok1
    have d2 : Dp K HB (.ref p2) (.tuple [.list (c1.trail.map pdEv), pdFe c1.fin]) := by
      have z : Dp K HB (.ref p2) (.tuple [.list (c2.trail.map pdEv), pdFe c2.fin]) := .tup (SqT.of gB) (.cons (.lst (SqL.of (sAB _ _ b2)) (dp_evs (b3.imp fun _ _ z => EvV.tk (tk_same sAB) z))) (.cons (dp_fe (b4.tk (tk_same sAB))) .nil))
      rwa [hs.tr, hs.fin] at z
    refine ⟨.tuple [.list (c1.trail.map pdEv), pdFe c1.fin], .tuple [.list (c1.trail.map pdEv), pdFe c1.fin], .tup (SqT.of (sB _ _ gA)) (.cons (.lst (SqL.of (s9B _ _ a2)) (dp_evs (a3.imp fun _ _ z => EvV.tk (tk_same s9B) z))) (.cons (dp_fe (a4.tk (tk_same s9B))) .nil)), d2, hsh, hsh, _, rfl, ?_⟩
    refine itF (by rw [eqv_self hsh]; rfl) ?_
    refine ⟨_, rfl, q2, _, _, _, rfl, rfl, SqT.of (sAB _ _ b1), at2, _, rfl, q1, _, _, _, rfl, rfl, SqT.of (s9B _ _ a1), at2, _, _, rfl, rfl, _, rfl, ?_⟩
    refine itF (decide_eq_false (by have := hs.dp; omega)) ?_
    refine ⟨_, rfl, q2, _, _, _, rfl, rfl, SqT.of (sAB _ _ b1), at3, _, rfl, q1, _, _, _, rfl, rfl, SqT.of (s9B _ _ a1), at3, _, _, rfl, rfl, _, rfl, ?_⟩
    refine itF (decide_eq_false (by have := hs.md; omega)) ?_
    exact ⟨_, _, _, _, _, rfl, s78.trans s9B⟩
  · rintro σ H7 ⟨o3, o4, o5, o6, o7, rfl, s7⟩
    exact q _
end
end KB

namespace KB
open PySem L2 HT LamX NdefX
theorem tabs_jx (T : List (Addr × Str)) : Jx (Tabs T) := ⟨fun s t => tabs_new t s, fun h t => tabs_mut t h _⟩
end KB

namespace KB
open PySem L2
theorem all_mk {l : PySem.W.OpenLaw} {w : World} {K : PySem.W.Frag} {h : Heap} {mg : Str → Option Value} {fa : Addr} (X : K.In h) (G : h.Ns mainGlobals mg) (hfa : mg "law" = some (.ref fa))
    {ca pt f1 f2 f3 f4 f5 f6 f7 f8 f9 f10 f11 f12 f13 f14 f15 f16 f17 f18 f19 f20 f21 f22 f23 f24 f25 f26 f27 f28 f29 f30 f31 f32 f33 f34 f35 f36 f37 f38 f39 f40 : Addr}
    {od1 an1 od2 an2 od3 an3 od4 an4 od5 an5 od6 an6 od7 an7 od8 an8 od9 an9 od10 an10 od11 an11 od12 an12 od13 an13 od14 an14 od15 an15 od16 an16 od17 an17 od18 an18 od19 an19 od20 an20 od21 an21 od22 an22 od23 an23 od24 an24 od25 an25 od26 an26 od27 an27 od28 an28 od29 an29 od30 an30 od31 an31 od32 an32 od33 an33 od34 an34 od35 an35 od36 an36 od37 an37 od38 an38 od39 an39 od40 an40  : Option Addr}
    {sl1 sl2 sl3 sl4 sl5 sl6 sl7 sl8 sl9 sl10 sl11 sl12 sl13 sl14 sl15 sl16 sl17 sl18 sl19 sl20 sl21 sl22 sl23 sl24 sl25 sl26 sl27 sl28 sl29 sl30 sl31 sl32 sl33 sl34 sl35 sl36 sl37 sl38 sl39 sl40  : Array (Option Value)}
    {oc1 kV1 dc1 pm1 cd1 ct1 oc2 kV2 dc2 pm2 cd2 ct2 oc3 kV3 dc3 pm3 cd3 ct3 oc4 kV4 dc4 pm4 cd4 ct4 oc5 kV5 dc5 pm5 cd5 ct5 oc6 kV6 dc6 pm6 cd6 ct6 oc7 kV7 dc7 pm7 cd7 ct7 oc8 kV8 dc8 pm8 cd8 ct8 oc9 kV9 dc9 pm9 cd9 ct9 oc10 kV10 dc10 pm10 cd10 ct10 oc11 kV11 dc11 pm11 cd11 ct11 oc12 kV12 dc12 pm12 ct12 oc13 kV13 dc13 pm13 cd13 ct13 oc14 kV14 dc14 pm14 cd14 ct14 oc15 kV15 dc15 pm15 cd15 ct15 oc16 kV16 dc16 pm16 cd16 ct16 oc17 kV17 dc17 pm17 cd17 ct17 oc18 kV18 dc18 pm18 cd18 ct18 oc19 kV19 dc19 pm19 cd19 ct19 oc20 kV20 dc20 pm20 cd20 ct20 oc21 kV21 dc21 pm21 cd21 ct21 oc22 kV22 dc22 pm22 cd22 ct22 oc23 kV23 dc23 pm23 cd23 ct23 oc24 kV24 dc24 pm24 cd24 ct24 oc25 kV25 dc25 pm25 cd25 ct25 oc26 kV26 dc26 pm26 cd26 ct26 oc27 kV27 dc27 pm27 cd27 ct27 oc28 kV28 dc28 pm28 cd28 ct28 oc29 kV29 dc29 pm29 cd29 ct29 oc30 kV30 dc30 pm30 cd30 ct30 oc31 kV31 dc31 pm31 cd31 ct31 oc32 kV32 dc32 pm32 cd32 ct32 oc33 kV33 dc33 pm33 cd33 ct33 oc34 kV34 dc34 pm34 cd34 ct34 oc35 kV35 dc35 pm35 cd35 ct35 oc36 kV36 dc36 pm36 cd36 ct36 oc37 kV37 dc37 pm37 cd37 ct37 oc38 kV38 dc38 pm38 cd38 ct38 oc39 kV39 dc39 pm39 cd39 ct39 oc40 kV40 dc40 pm40 cd40 ct40  : Value}
    (a1 : PySem.W.nsIn K mainGlobals "met" = some (some (.ref f1)))
    (l1 : K.lookup f1 = some ⟨oc1, od1, .func (PySem.W.fnOf "met" "met" (defArgs smet) (defBody smet) (defScope smet) .none kV1 dc1 pm1 an1 cd1 ct1), sl1⟩)
    (c1 : PySem.W.codeIn K cd1 "met" = true)
    (k1 : PySem.W.keepIn K (.ref f1) = true)
    (a2 : PySem.W.nsIn K mainGlobals "remade" = some (some (.ref f2)))
    (l2 : K.lookup f2 = some ⟨oc2, od2, .func (PySem.W.fnOf "remade" "remade" (defArgs sremade) (defBody sremade) (defScope sremade) .none kV2 dc2 pm2 an2 cd2 ct2), sl2⟩)
    (c2 : PySem.W.codeIn K cd2 "remade" = true)
    (k2 : PySem.W.keepIn K (.ref f2) = true)
    (a3 : PySem.W.nsIn K mainGlobals "last_taken" = some (some (.ref f3)))
    (l3 : K.lookup f3 = some ⟨oc3, od3, .func (PySem.W.fnOf "last_taken" "last_taken" (defArgs slast_taken) (defBody slast_taken) (defScope slast_taken) .none kV3 dc3 pm3 an3 cd3 ct3), sl3⟩)
    (c3 : PySem.W.codeIn K cd3 "last_taken" = true)
    (k3 : PySem.W.keepIn K (.ref f3) = true)
    (a4 : PySem.W.nsIn K mainGlobals "terms_in" = some (some (.ref f4)))
    (l4 : K.lookup f4 = some ⟨oc4, od4, .func (PySem.W.fnOf "terms_in" "terms_in" (defArgs sterms_in) (defBody sterms_in) (defScope sterms_in) .none kV4 dc4 pm4 an4 cd4 ct4), sl4⟩)
    (c4 : PySem.W.codeIn K cd4 "terms_in" = true)
    (k4 : PySem.W.keepIn K (.ref f4) = true)
    (a5 : PySem.W.nsIn K mainGlobals "rest_of" = some (some (.ref f5)))
    (l5 : K.lookup f5 = some ⟨oc5, od5, .func (PySem.W.fnOf "rest_of" "rest_of" (defArgs srest_of) (defBody srest_of) (defScope srest_of) .none kV5 dc5 pm5 an5 cd5 ct5), sl5⟩)
    (c5 : PySem.W.codeIn K cd5 "rest_of" = true)
    (k5 : PySem.W.keepIn K (.ref f5) = true)
    (a6 : PySem.W.nsIn K mainGlobals "with_rest" = some (some (.ref f6)))
    (l6 : K.lookup f6 = some ⟨oc6, od6, .func (PySem.W.fnOf "with_rest" "with_rest" (defArgs swith_rest) (defBody swith_rest) (defScope swith_rest) .none kV6 dc6 pm6 an6 cd6 ct6), sl6⟩)
    (c6 : PySem.W.codeIn K cd6 "with_rest" = true)
    (k6 : PySem.W.keepIn K (.ref f6) = true)
    (a7 : PySem.W.nsIn K mainGlobals "hand_of" = some (some (.ref f7)))
    (l7 : K.lookup f7 = some ⟨oc7, od7, .func (PySem.W.fnOf "hand_of" "hand_of" (defArgs shand_of) (defBody shand_of) (defScope shand_of) .none kV7 dc7 pm7 an7 cd7 ct7), sl7⟩)
    (c7 : PySem.W.codeIn K cd7 "hand_of" = true)
    (k7 : PySem.W.keepIn K (.ref f7) = true)
    (a8 : PySem.W.nsIn K mainGlobals "is_idle" = some (some (.ref f8)))
    (l8 : K.lookup f8 = some ⟨oc8, od8, .func (PySem.W.fnOf "is_idle" "is_idle" (defArgs sis_idle) (defBody sis_idle) (defScope sis_idle) .none kV8 dc8 pm8 an8 cd8 ct8), sl8⟩)
    (c8 : PySem.W.codeIn K cd8 "is_idle" = true)
    (k8 : PySem.W.keepIn K (.ref f8) = true)
    (a9 : PySem.W.nsIn K mainGlobals "is_passed_on" = some (some (.ref f9)))
    (l9 : K.lookup f9 = some ⟨oc9, od9, .func (PySem.W.fnOf "is_passed_on" "is_passed_on" (defArgs sis_passed_on) (defBody sis_passed_on) (defScope sis_passed_on) .none kV9 dc9 pm9 an9 cd9 ct9), sl9⟩)
    (c9 : PySem.W.codeIn K cd9 "is_passed_on" = true)
    (k9 : PySem.W.keepIn K (.ref f9) = true)
    (a10 : PySem.W.nsIn K mainGlobals "is_handed_to" = some (some (.ref f10)))
    (l10 : K.lookup f10 = some ⟨oc10, od10, .func (PySem.W.fnOf "is_handed_to" "is_handed_to" (defArgs sis_handed_to) (defBody sis_handed_to) (defScope sis_handed_to) .none kV10 dc10 pm10 an10 cd10 ct10), sl10⟩)
    (c10 : PySem.W.codeIn K cd10 "is_handed_to" = true)
    (k10 : PySem.W.keepIn K (.ref f10) = true)
    (a11 : PySem.W.nsIn K mainGlobals "slim" = some (some (.ref f11)))
    (l11 : K.lookup f11 = some ⟨oc11, od11, .func (PySem.W.fnOf "slim" "slim" (defArgs sslim) (defBody sslim) (defScope sslim) .none kV11 dc11 pm11 an11 cd11 ct11), sl11⟩)
    (c11 : PySem.W.codeIn K cd11 "slim" = true)
    (k11 : PySem.W.keepIn K (.ref f11) = true)
    (a12 : PySem.W.nsIn K mainGlobals "slim_part" = some (some (.ref f12)))
    (l12 : K.lookup f12 = some ⟨oc12, od12, .func (PySem.W.fnOf "slim_part" "slim_part" (defArgs sslim_part) (defBody sslim_part) (defScope sslim_part) .none kV12 dc12 pm12 an12 (.ref ca) ct12), sl12⟩)
    (c12 : PySem.W.codeIn K (.ref ca) "slim_part" = true)
    (k12 : PySem.W.keepIn K (.ref f12) = true)
    (a13 : PySem.W.nsIn K mainGlobals "handed_instead" = some (some (.ref f13)))
    (l13 : K.lookup f13 = some ⟨oc13, od13, .func (PySem.W.fnOf "handed_instead" "handed_instead" (defArgs shanded_instead) (defBody shanded_instead) (defScope shanded_instead) .none kV13 dc13 pm13 an13 cd13 ct13), sl13⟩)
    (c13 : PySem.W.codeIn K cd13 "handed_instead" = true)
    (k13 : PySem.W.keepIn K (.ref f13) = true)
    (a14 : PySem.W.nsIn K mainGlobals "bent_at" = some (some (.ref f14)))
    (l14 : K.lookup f14 = some ⟨oc14, od14, .func (PySem.W.fnOf "bent_at" "bent_at" (defArgs sbent_at) (defBody sbent_at) (defScope sbent_at) .none kV14 dc14 pm14 an14 cd14 ct14), sl14⟩)
    (c14 : PySem.W.codeIn K cd14 "bent_at" = true)
    (k14 : PySem.W.keepIn K (.ref f14) = true)
    (a15 : PySem.W.nsIn K mainGlobals "bent_in" = some (some (.ref f15)))
    (l15 : K.lookup f15 = some ⟨oc15, od15, .func (PySem.W.fnOf "bent_in" "bent_in" (defArgs sbent_in) (defBody sbent_in) (defScope sbent_in) .none kV15 dc15 pm15 an15 cd15 ct15), sl15⟩)
    (c15 : PySem.W.codeIn K cd15 "bent_in" = true)
    (k15 : PySem.W.keepIn K (.ref f15) = true)
    (a16 : PySem.W.nsIn K mainGlobals "_law_cell_at" = some (some (.ref f16)))
    (l16 : K.lookup f16 = some ⟨oc16, od16, .func (PySem.W.fnOf "_law_cell_at" "_law_cell_at" (defArgs s_law_cell_at) (defBody s_law_cell_at) (defScope s_law_cell_at) .none kV16 dc16 pm16 an16 cd16 ct16), sl16⟩)
    (c16 : PySem.W.codeIn K cd16 "_law_cell_at" = true)
    (k16 : PySem.W.keepIn K (.ref f16) = true)
    (a17 : PySem.W.nsIn K mainGlobals "_law_tape" = some (some (.ref f17)))
    (l17 : K.lookup f17 = some ⟨oc17, od17, .func (PySem.W.fnOf "_law_tape" "_law_tape" (defArgs s_law_tape) (defBody s_law_tape) (defScope s_law_tape) .none kV17 dc17 pm17 an17 cd17 ct17), sl17⟩)
    (c17 : PySem.W.codeIn K cd17 "_law_tape" = true)
    (k17 : PySem.W.keepIn K (.ref f17) = true)
    (a18 : PySem.W.nsIn K mainGlobals "_law_digit" = some (some (.ref f18)))
    (l18 : K.lookup f18 = some ⟨oc18, od18, .func (PySem.W.fnOf "_law_digit" "_law_digit" (defArgs s_law_digit) (defBody s_law_digit) (defScope s_law_digit) .none kV18 dc18 pm18 an18 cd18 ct18), sl18⟩)
    (c18 : PySem.W.codeIn K cd18 "_law_digit" = true)
    (k18 : PySem.W.keepIn K (.ref f18) = true)
    (a19 : PySem.W.nsIn K mainGlobals "_law_words" = some (some (.ref f19)))
    (l19 : K.lookup f19 = some ⟨oc19, od19, .func (PySem.W.fnOf "_law_words" "_law_words" (defArgs s_law_words) (defBody s_law_words) (defScope s_law_words) .none kV19 dc19 pm19 an19 cd19 ct19), sl19⟩)
    (c19 : PySem.W.codeIn K cd19 "_law_words" = true)
    (k19 : PySem.W.keepIn K (.ref f19) = true)
    (a20 : PySem.W.nsIn K mainGlobals "_law_number" = some (some (.ref f20)))
    (l20 : K.lookup f20 = some ⟨oc20, od20, .func (PySem.W.fnOf "_law_number" "_law_number" (defArgs s_law_number) (defBody s_law_number) (defScope s_law_number) .none kV20 dc20 pm20 an20 cd20 ct20), sl20⟩)
    (c20 : PySem.W.codeIn K cd20 "_law_number" = true)
    (k20 : PySem.W.keepIn K (.ref f20) = true)
    (a21 : PySem.W.nsIn K mainGlobals "_law_leaf" = some (some (.ref f21)))
    (l21 : K.lookup f21 = some ⟨oc21, od21, .func (PySem.W.fnOf "_law_leaf" "_law_leaf" (defArgs s_law_leaf) (defBody s_law_leaf) (defScope s_law_leaf) .none kV21 dc21 pm21 an21 cd21 ct21), sl21⟩)
    (c21 : PySem.W.codeIn K cd21 "_law_leaf" = true)
    (k21 : PySem.W.keepIn K (.ref f21) = true)
    (a22 : PySem.W.nsIn K mainGlobals "_law_shares" = some (some (.ref f22)))
    (l22 : K.lookup f22 = some ⟨oc22, od22, .func (PySem.W.fnOf "_law_shares" "_law_shares" (defArgs s_law_shares) (defBody s_law_shares) (defScope s_law_shares) .none kV22 dc22 pm22 an22 cd22 ct22), sl22⟩)
    (c22 : PySem.W.codeIn K cd22 "_law_shares" = true)
    (k22 : PySem.W.keepIn K (.ref f22) = true)
    (a23 : PySem.W.nsIn K mainGlobals "_law_less_one" = some (some (.ref f23)))
    (l23 : K.lookup f23 = some ⟨oc23, od23, .func (PySem.W.fnOf "_law_less_one" "_law_less_one" (defArgs s_law_less_one) (defBody s_law_less_one) (defScope s_law_less_one) .none kV23 dc23 pm23 an23 cd23 ct23), sl23⟩)
    (c23 : PySem.W.codeIn K cd23 "_law_less_one" = true)
    (k23 : PySem.W.keepIn K (.ref f23) = true)
    (a24 : PySem.W.nsIn K mainGlobals "_law_numbers" = some (some (.ref f24)))
    (l24 : K.lookup f24 = some ⟨oc24, od24, .func (PySem.W.fnOf "_law_numbers" "_law_numbers" (defArgs s_law_numbers) (defBody s_law_numbers) (defScope s_law_numbers) .none kV24 dc24 pm24 an24 cd24 ct24), sl24⟩)
    (c24 : PySem.W.codeIn K cd24 "_law_numbers" = true)
    (k24 : PySem.W.keepIn K (.ref f24) = true)
    (a25 : PySem.W.nsIn K mainGlobals "_law_value" = some (some (.ref f25)))
    (l25 : K.lookup f25 = some ⟨oc25, od25, .func (PySem.W.fnOf "_law_value" "_law_value" (defArgs s_law_value) (defBody s_law_value) (defScope s_law_value) .none kV25 dc25 pm25 an25 cd25 ct25), sl25⟩)
    (c25 : PySem.W.codeIn K cd25 "_law_value" = true)
    (k25 : PySem.W.keepIn K (.ref f25) = true)
    (a26 : PySem.W.nsIn K mainGlobals "_law_turned_run" = some (some (.ref f26)))
    (l26 : K.lookup f26 = some ⟨oc26, od26, .func (PySem.W.fnOf "_law_turned_run" "_law_turned_run" (defArgs s_law_turned_run) (defBody s_law_turned_run) (defScope s_law_turned_run) .none kV26 dc26 pm26 an26 cd26 ct26), sl26⟩)
    (c26 : PySem.W.codeIn K cd26 "_law_turned_run" = true)
    (k26 : PySem.W.keepIn K (.ref f26) = true)
    (a27 : PySem.W.nsIn K mainGlobals "_law_along" = some (some (.ref f27)))
    (l27 : K.lookup f27 = some ⟨oc27, od27, .func (PySem.W.fnOf "_law_along" "_law_along" (defArgs s_law_along) (defBody s_law_along) (defScope s_law_along) .none kV27 dc27 pm27 an27 cd27 ct27), sl27⟩)
    (c27 : PySem.W.codeIn K cd27 "_law_along" = true)
    (k27 : PySem.W.keepIn K (.ref f27) = true)
    (a28 : PySem.W.nsIn K mainGlobals "_law_simple" = some (some (.ref f28)))
    (l28 : K.lookup f28 = some ⟨oc28, od28, .func (PySem.W.fnOf "_law_simple" "_law_simple" (defArgs s_law_simple) (defBody s_law_simple) (defScope s_law_simple) .none kV28 dc28 pm28 an28 cd28 ct28), sl28⟩)
    (c28 : PySem.W.codeIn K cd28 "_law_simple" = true)
    (k28 : PySem.W.keepIn K (.ref f28) = true)
    (a29 : PySem.W.nsIn K mainGlobals "_law_some_hand" = some (some (.ref f29)))
    (l29 : K.lookup f29 = some ⟨oc29, od29, .func (PySem.W.fnOf "_law_some_hand" "_law_some_hand" (defArgs s_law_some_hand) (defBody s_law_some_hand) (defScope s_law_some_hand) .none kV29 dc29 pm29 an29 cd29 ct29), sl29⟩)
    (c29 : PySem.W.codeIn K cd29 "_law_some_hand" = true)
    (k29 : PySem.W.keepIn K (.ref f29) = true)
    (a30 : PySem.W.nsIn K mainGlobals "_law_end" = some (some (.ref f30)))
    (l30 : K.lookup f30 = some ⟨oc30, od30, .func (PySem.W.fnOf "_law_end" "_law_end" (defArgs s_law_end) (defBody s_law_end) (defScope s_law_end) .none kV30 dc30 pm30 an30 cd30 ct30), sl30⟩)
    (c30 : PySem.W.codeIn K cd30 "_law_end" = true)
    (k30 : PySem.W.keepIn K (.ref f30) = true)
    (a31 : PySem.W.nsIn K mainGlobals "_law_part" = some (some (.ref f31)))
    (l31 : K.lookup f31 = some ⟨oc31, od31, .func (PySem.W.fnOf "_law_part" "_law_part" (defArgs s_law_part) (defBody s_law_part) (defScope s_law_part) .none kV31 dc31 pm31 an31 cd31 ct31), sl31⟩)
    (c31 : PySem.W.codeIn K cd31 "_law_part" = true)
    (k31 : PySem.W.keepIn K (.ref f31) = true)
    (a32 : PySem.W.nsIn K mainGlobals "_law_turned_body" = some (some (.ref f32)))
    (l32 : K.lookup f32 = some ⟨oc32, od32, .func (PySem.W.fnOf "_law_turned_body" "_law_turned_body" (defArgs s_law_turned_body) (defBody s_law_turned_body) (defScope s_law_turned_body) .none kV32 dc32 pm32 an32 cd32 ct32), sl32⟩)
    (c32 : PySem.W.codeIn K cd32 "_law_turned_body" = true)
    (k32 : PySem.W.keepIn K (.ref f32) = true)
    (a33 : PySem.W.nsIn K mainGlobals "_law_turned_book" = some (some (.ref f33)))
    (l33 : K.lookup f33 = some ⟨oc33, od33, .func (PySem.W.fnOf "_law_turned_book" "_law_turned_book" (defArgs s_law_turned_book) (defBody s_law_turned_book) (defScope s_law_turned_book) .none kV33 dc33 pm33 an33 cd33 ct33), sl33⟩)
    (c33 : PySem.W.codeIn K cd33 "_law_turned_book" = true)
    (k33 : PySem.W.keepIn K (.ref f33) = true)
    (a34 : PySem.W.nsIn K mainGlobals "_law_is_word" = some (some (.ref f34)))
    (l34 : K.lookup f34 = some ⟨oc34, od34, .func (PySem.W.fnOf "_law_is_word" "_law_is_word" (defArgs s_law_is_word) (defBody s_law_is_word) (defScope s_law_is_word) .none kV34 dc34 pm34 an34 cd34 ct34), sl34⟩)
    (c34 : PySem.W.codeIn K cd34 "_law_is_word" = true)
    (k34 : PySem.W.keepIn K (.ref f34) = true)
    (a35 : PySem.W.nsIn K mainGlobals "_law_whole" = some (some (.ref f35)))
    (l35 : K.lookup f35 = some ⟨oc35, od35, .func (PySem.W.fnOf "_law_whole" "_law_whole" (defArgs s_law_whole) (defBody s_law_whole) (defScope s_law_whole) .none kV35 dc35 pm35 an35 cd35 ct35), sl35⟩)
    (c35 : PySem.W.codeIn K cd35 "_law_whole" = true)
    (k35 : PySem.W.keepIn K (.ref f35) = true)
    (a36 : PySem.W.nsIn K mainGlobals "_law_good_term" = some (some (.ref f36)))
    (l36 : K.lookup f36 = some ⟨oc36, od36, .func (PySem.W.fnOf "_law_good_term" "_law_good_term" (defArgs s_law_good_term) (defBody s_law_good_term) (defScope s_law_good_term) .none kV36 dc36 pm36 an36 cd36 ct36), sl36⟩)
    (c36 : PySem.W.codeIn K cd36 "_law_good_term" = true)
    (k36 : PySem.W.keepIn K (.ref f36) = true)
    (a37 : PySem.W.nsIn K mainGlobals "_law_good_part" = some (some (.ref f37)))
    (l37 : K.lookup f37 = some ⟨oc37, od37, .func (PySem.W.fnOf "_law_good_part" "_law_good_part" (defArgs s_law_good_part) (defBody s_law_good_part) (defScope s_law_good_part) .none kV37 dc37 pm37 an37 cd37 ct37), sl37⟩)
    (c37 : PySem.W.codeIn K cd37 "_law_good_part" = true)
    (k37 : PySem.W.keepIn K (.ref f37) = true)
    (a38 : PySem.W.nsIn K mainGlobals "_law_good" = some (some (.ref f38)))
    (l38 : K.lookup f38 = some ⟨oc38, od38, .func (PySem.W.fnOf "_law_good" "_law_good" (defArgs s_law_good) (defBody s_law_good) (defScope s_law_good) .none kV38 dc38 pm38 an38 cd38 ct38), sl38⟩)
    (c38 : PySem.W.codeIn K cd38 "_law_good" = true)
    (k38 : PySem.W.keepIn K (.ref f38) = true)
    (a39 : PySem.W.nsIn K mainGlobals "_law_first_runs" = some (some (.ref f39)))
    (l39 : K.lookup f39 = some ⟨oc39, od39, .func (PySem.W.fnOf "_law_first_runs" "_law_first_runs" (defArgs s_law_first_runs) (defBody s_law_first_runs) (defScope s_law_first_runs) .none kV39 dc39 pm39 an39 cd39 ct39), sl39⟩)
    (c39 : PySem.W.codeIn K cd39 "_law_first_runs" = true)
    (k39 : PySem.W.keepIn K (.ref f39) = true)
    (a40 : PySem.W.nsIn K mainGlobals "law" = some (some (.ref f40)))
    (l40 : K.lookup f40 = some ⟨oc40, od40, .func (PySem.W.fnOf "law" "law" (defArgs slaw) (defBody slaw) (defScope slaw) .none kV40 dc40 pm40 an40 cd40 ct40), sl40⟩)
    (c40 : PySem.W.codeIn K cd40 "law" = true)
    (k40 : PySem.W.keepIn K (.ref f40) = true)
    (z_len : PySem.W.nsIn K mainGlobals "len" = some none)
    (z_isinstance : PySem.W.nsIn K mainGlobals "isinstance" = some none)
    (z_int : PySem.W.nsIn K mainGlobals "int" = some none)
    (z_tuple : PySem.W.nsIn K mainGlobals "tuple" = some none)
    (z_list : PySem.W.nsIn K mainGlobals "list" = some none)
    (z_str : PySem.W.nsIn K mainGlobals "str" = some none)
    (z_bool : PySem.W.nsIn K mainGlobals "bool" = some none)
    (z_max : PySem.W.nsIn K mainGlobals "max" = some none)
    (z_all : PySem.W.nsIn K mainGlobals "all" = some none)
    (z_dict : PySem.W.nsIn K mainGlobals "dict" = some none)
    (z_range : PySem.W.nsIn K mainGlobals "range" = some none)
    (z_enumerate : PySem.W.nsIn K mainGlobals "enumerate" = some none)
    (z_reversed : PySem.W.nsIn K mainGlobals "reversed" = some none)
    (z_any : PySem.W.nsIn K mainGlobals "any" = some none)
    (z_set : PySem.W.nsIn K mainGlobals "set" = some none)
    {tHOME : Tok}
    (qHOME : PySem.W.nsIn K mainGlobals "HOME" = some (some (.str "home" tHOME)))
    (nTab : K.lookup pt = none)
    (hCode : PySem.W.codeHdIn K ca pt = true)
    : (∀ p ∈ [(ca, pt)], K.lookup p.2 = none) ∧ (∀ p ∈ [(ca, pt)], PySem.W.CodeHd h p.1 p.2) ∧ ∃ fd : FuncData, (∀ (s : Shared) (v : Value), BindsTo s fd ⟨[v], []⟩ [("script", v)]) ∧ ∀ base : Heap, K.In base → base.Ns mainGlobals mg → LamX.TabB base mg ca pt → FnOk l.prog w K mg base CX0 67 fa fd ["script"] (spLawT K [(pt, ("slim_part.<locals>.<lambda>" : Str))]) := by
  have e := hfa.symm.trans (PySem.W.mg_of X G a40)
  cases e
  have T : Txt K mg := ⟨PySem.W.mg_none_of X G z_len, PySem.W.mg_none_of X G z_isinstance, PySem.W.mg_none_of X G z_int, PySem.W.mg_none_of X G z_tuple, PySem.W.mg_none_of X G z_list, PySem.W.mg_none_of X G z_str, PySem.W.mg_none_of X G z_bool, PySem.W.mg_none_of X G z_max, PySem.W.mg_none_of X G z_all, PySem.W.mg_none_of X G z_dict, PySem.W.mg_none_of X G z_range, PySem.W.mg_none_of X G z_enumerate, PySem.W.mg_none_of X G z_reversed⟩
  have F1 := fun_mk (st := smet) l1 c1 k1
  have R1 : Ref K mg "met" f1 _ ["body", "parts"] := ⟨PySem.W.mg_of X G a1, k1, F1.binds (ps := ["body", "parts"]) fun _ _ _ _ _ _ us hl => match us, hl with | [_, _], _ => rfl⟩
  have F2 := fun_mk (st := sremade) l2 c2 k2
  have R2 : Ref K mg "remade" f2 _ ["body", "parts", "made"] := ⟨PySem.W.mg_of X G a2, k2, F2.binds (ps := ["body", "parts", "made"]) fun _ _ _ _ _ _ us hl => match us, hl with | [_, _, _], _ => rfl⟩
  have F3 := fun_mk (st := slast_taken) l3 c3 k3
  have R3 : Ref K mg "last_taken" f3 _ ["got", "many"] := ⟨PySem.W.mg_of X G a3, k3, F3.binds (ps := ["got", "many"]) fun _ _ _ _ _ _ us hl => match us, hl with | [_, _], _ => rfl⟩
  have F4 := fun_mk (st := sterms_in) l4 c4 k4
  have R4 : Ref K mg "terms_in" f4 _ ["part"] := ⟨PySem.W.mg_of X G a4, k4, F4.binds (ps := ["part"]) fun _ _ _ _ _ _ us hl => match us, hl with | [_], _ => rfl⟩
  have F5 := fun_mk (st := srest_of) l5 c5 k5
  have R5 : Ref K mg "rest_of" f5 _ ["part"] := ⟨PySem.W.mg_of X G a5, k5, F5.binds (ps := ["part"]) fun _ _ _ _ _ _ us hl => match us, hl with | [_], _ => rfl⟩
  have F6 := fun_mk (st := swith_rest) l6 c6 k6
  have R6 : Ref K mg "with_rest" f6 _ ["part", "rest"] := ⟨PySem.W.mg_of X G a6, k6, F6.binds (ps := ["part", "rest"]) fun _ _ _ _ _ _ us hl => match us, hl with | [_, _], _ => rfl⟩
  have F7 := fun_mk (st := shand_of) l7 c7 k7
  have R7 : Ref K mg "hand_of" f7 _ ["part"] := ⟨PySem.W.mg_of X G a7, k7, F7.binds (ps := ["part"]) fun _ _ _ _ _ _ us hl => match us, hl with | [_], _ => rfl⟩
  have F8 := fun_mk (st := sis_idle) l8 c8 k8
  have R8 : Ref K mg "is_idle" f8 _ ["part"] := ⟨PySem.W.mg_of X G a8, k8, F8.binds (ps := ["part"]) fun _ _ _ _ _ _ us hl => match us, hl with | [_], _ => rfl⟩
  have F9 := fun_mk (st := sis_passed_on) l9 c9 k9
  have R9 : Ref K mg "is_passed_on" f9 _ ["post"] := ⟨PySem.W.mg_of X G a9, k9, F9.binds (ps := ["post"]) fun _ _ _ _ _ _ us hl => match us, hl with | [_], _ => rfl⟩
  have F10 := fun_mk (st := sis_handed_to) l10 c10 k10
  have R10 : Ref K mg "is_handed_to" f10 _ ["j", "part"] := ⟨PySem.W.mg_of X G a10, k10, F10.binds (ps := ["j", "part"]) fun _ _ _ _ _ _ us hl => match us, hl with | [_, _], _ => rfl⟩
  have F11 := fun_mk (st := sslim) l11 c11 k11
  have R11 : Ref K mg "slim" f11 _ ["turned"] := ⟨PySem.W.mg_of X G a11, k11, F11.binds (ps := ["turned"]) fun _ _ _ _ _ _ us hl => match us, hl with | [_], _ => rfl⟩
  have F12 := fun_mk (st := sslim_part) l12 c12 k12
  have R12 : Ref K mg "slim_part" f12 _ ["part", "rest"] := ⟨PySem.W.mg_of X G a12, k12, F12.binds (ps := ["part", "rest"]) fun _ _ _ _ _ _ us hl => match us, hl with | [_, _], _ => rfl⟩
  have F13 := fun_mk (st := shanded_instead) l13 c13 k13
  have R13 : Ref K mg "handed_instead" f13 _ ["part", "rest", "j", "k"] := ⟨PySem.W.mg_of X G a13, k13, F13.binds (ps := ["part", "rest", "j", "k"]) fun _ _ _ _ _ _ us hl => match us, hl with | [_, _, _, _], _ => rfl⟩
  have F14 := fun_mk (st := sbent_at) l14 c14 k14
  have R14 : Ref K mg "bent_at" f14 _ ["turned"] := ⟨PySem.W.mg_of X G a14, k14, F14.binds (ps := ["turned"]) fun _ _ _ _ _ _ us hl => match us, hl with | [_], _ => rfl⟩
  have F15 := fun_mk (st := sbent_in) l15 c15 k15
  have R15 : Ref K mg "bent_in" f15 _ ["name", "body"] := ⟨PySem.W.mg_of X G a15, k15, F15.binds (ps := ["name", "body"]) fun _ _ _ _ _ _ us hl => match us, hl with | [_, _], _ => rfl⟩
  have F16 := fun_mk (st := s_law_cell_at) l16 c16 k16
  have R16 : Ref K mg "_law_cell_at" f16 _ ["script", "k"] := ⟨PySem.W.mg_of X G a16, k16, F16.binds (ps := ["script", "k"]) fun _ _ _ _ _ _ us hl => match us, hl with | [_, _], _ => rfl⟩
  have F17 := fun_mk (st := s_law_tape) l17 c17 k17
  have R17 : Ref K mg "_law_tape" f17 _ ["script", "k"] := ⟨PySem.W.mg_of X G a17, k17, F17.binds (ps := ["script", "k"]) fun _ _ _ _ _ _ us hl => match us, hl with | [_, _], _ => rfl⟩
  have F18 := fun_mk (st := s_law_digit) l18 c18 k18
  have R18 : Ref K mg "_law_digit" f18 _ ["tape", "many"] := ⟨PySem.W.mg_of X G a18, k18, F18.binds (ps := ["tape", "many"]) fun _ _ _ _ _ _ us hl => match us, hl with | [_, _], _ => rfl⟩
  have F19 := fun_mk (st := s_law_words) l19 c19 k19
  have R19 : Ref K mg "_law_words" f19 _ ["tape", "many"] := ⟨PySem.W.mg_of X G a19, k19, F19.binds (ps := ["tape", "many"]) fun _ _ _ _ _ _ us hl => match us, hl with | [_, _], _ => rfl⟩
  have F20 := fun_mk (st := s_law_number) l20 c20 k20
  have R20 : Ref K mg "_law_number" f20 _ ["tape"] := ⟨PySem.W.mg_of X G a20, k20, F20.binds (ps := ["tape"]) fun _ _ _ _ _ _ us hl => match us, hl with | [_], _ => rfl⟩
  have F21 := fun_mk (st := s_law_leaf) l21 c21 k21
  have R21 : Ref K mg "_law_leaf" f21 _ ["tape", "known", "around"] := ⟨PySem.W.mg_of X G a21, k21, F21.binds (ps := ["tape", "known", "around"]) fun _ _ _ _ _ _ us hl => match us, hl with | [_, _, _], _ => rfl⟩
  have F22 := fun_mk (st := s_law_shares) l22 c22 k22
  have R22 : Ref K mg "_law_shares" f22 _ ["tape", "room", "many"] := ⟨PySem.W.mg_of X G a22, k22, F22.binds (ps := ["tape", "room", "many"]) fun _ _ _ _ _ _ us hl => match us, hl with | [_, _, _], _ => rfl⟩
  have F23 := fun_mk (st := s_law_less_one) l23 c23 k23
  have R23 : Ref K mg "_law_less_one" f23 _ ["around"] := ⟨PySem.W.mg_of X G a23, k23, F23.binds (ps := ["around"]) fun _ _ _ _ _ _ us hl => match us, hl with | [_], _ => rfl⟩
  have F24 := fun_mk (st := s_law_numbers) l24 c24 k24
  have R24 : Ref K mg "_law_numbers" f24 _ ["tape", "many"] := ⟨PySem.W.mg_of X G a24, k24, F24.binds (ps := ["tape", "many"]) fun _ _ _ _ _ _ us hl => match us, hl with | [_, _], _ => rfl⟩
  have F25 := fun_mk (st := s_law_value) l25 c25 k25
  have R25 : Ref K mg "_law_value" f25 _ ["term", "names"] := ⟨PySem.W.mg_of X G a25, k25, F25.binds (ps := ["term", "names"]) fun _ _ _ _ _ _ us hl => match us, hl with | [_, _], _ => rfl⟩
  have F26 := fun_mk (st := s_law_turned_run) l26 c26 k26
  have R26 : Ref K mg "_law_turned_run" f26 _ ["turned", "f", "numbers", "most"] := ⟨PySem.W.mg_of X G a26, k26, F26.binds (ps := ["turned", "f", "numbers", "most"]) fun _ _ _ _ _ _ us hl => match us, hl with | [_, _, _, _], _ => rfl⟩
  have F27 := fun_mk (st := s_law_along) l27 c27 k27
  have R27 : Ref K mg "_law_along" f27 _ ["now", "part", "names", "hands"] := ⟨PySem.W.mg_of X G a27, k27, F27.binds (ps := ["now", "part", "names", "hands"]) fun _ _ _ _ _ _ us hl => match us, hl with | [_, _, _, _], _ => rfl⟩
  have F28 := fun_mk (st := s_law_simple) l28 c28 k28
  have R28 : Ref K mg "_law_simple" f28 _ ["tape", "around", "deep"] := ⟨PySem.W.mg_of X G a28, k28, F28.binds (ps := ["tape", "around", "deep"]) fun _ _ _ _ _ _ us hl => match us, hl with | [_, _, _], _ => rfl⟩
  have F29 := fun_mk (st := s_law_some_hand) l29 c29 k29
  have R29 : Ref K mg "_law_some_hand" f29 _ ["tape", "known", "hands"] := ⟨PySem.W.mg_of X G a29, k29, F29.binds (ps := ["tape", "known", "hands"]) fun _ _ _ _ _ _ us hl => match us, hl with | [_, _, _], _ => rfl⟩
  have F30 := fun_mk (st := s_law_end) l30 c30 k30
  have R30 : Ref K mg "_law_end" f30 _ ["tape", "known", "around", "hands"] := ⟨PySem.W.mg_of X G a30, k30, F30.binds (ps := ["tape", "known", "around", "hands"]) fun _ _ _ _ _ _ us hl => match us, hl with | [_, _, _, _], _ => rfl⟩
  have F31 := fun_mk (st := s_law_part) l31 c31 k31
  have R31 : Ref K mg "_law_part" f31 _ ["tape", "known", "around", "hands", "room", "deep"] := ⟨PySem.W.mg_of X G a31, k31, F31.binds (ps := ["tape", "known", "around", "hands", "room", "deep"]) fun _ _ _ _ _ _ us hl => match us, hl with | [_, _, _, _, _, _], _ => rfl⟩
  have F32 := fun_mk (st := s_law_turned_body) l32 c32 k32
  have R32 : Ref K mg "_law_turned_body" f32 _ ["tape", "known", "names"] := ⟨PySem.W.mg_of X G a32, k32, F32.binds (ps := ["tape", "known", "names"]) fun _ _ _ _ _ _ us hl => match us, hl with | [_, _, _], _ => rfl⟩
  have F33 := fun_mk (st := s_law_turned_book) l33 c33 k33
  have R33 : Ref K mg "_law_turned_book" f33 _ ["script", "start", "straight"] := ⟨PySem.W.mg_of X G a33, k33, F33.binds (ps := ["script", "start", "straight"]) fun _ _ _ _ _ _ us hl => match us, hl with | [_, _, _], _ => rfl⟩
  have F34 := fun_mk (st := s_law_is_word) l34 c34 k34
  have R34 : Ref K mg "_law_is_word" f34 _ ["thing"] := ⟨PySem.W.mg_of X G a34, k34, F34.binds (ps := ["thing"]) fun _ _ _ _ _ _ us hl => match us, hl with | [_], _ => rfl⟩
  have F35 := fun_mk (st := s_law_whole) l35 c35 k35
  have R35 : Ref K mg "_law_whole" f35 _ ["thing"] := ⟨PySem.W.mg_of X G a35, k35, F35.binds (ps := ["thing"]) fun _ _ _ _ _ _ us hl => match us, hl with | [_], _ => rfl⟩
  have F36 := fun_mk (st := s_law_good_term) l36 c36 k36
  have R36 : Ref K mg "_law_good_term" f36 _ ["term", "names"] := ⟨PySem.W.mg_of X G a36, k36, F36.binds (ps := ["term", "names"]) fun _ _ _ _ _ _ us hl => match us, hl with | [_, _], _ => rfl⟩
  have F37 := fun_mk (st := s_law_good_part) l37 c37 k37
  have R37 : Ref K mg "_law_good_part" f37 _ ["part", "names", "hands", "now"] := ⟨PySem.W.mg_of X G a37, k37, F37.binds (ps := ["part", "names", "hands", "now"]) fun _ _ _ _ _ _ us hl => match us, hl with | [_, _, _, _], _ => rfl⟩
  have F38 := fun_mk (st := s_law_good) l38 c38 k38
  have R38 : Ref K mg "_law_good" f38 _ ["turned"] := ⟨PySem.W.mg_of X G a38, k38, F38.binds (ps := ["turned"]) fun _ _ _ _ _ _ us hl => match us, hl with | [_], _ => rfl⟩
  have F39 := fun_mk (st := s_law_first_runs) l39 c39 k39
  have R39 : Ref K mg "_law_first_runs" f39 _ ["script", "turned"] := ⟨PySem.W.mg_of X G a39, k39, F39.binds (ps := ["script", "turned"]) fun _ _ _ _ _ _ us hl => match us, hl with | [_, _], _ => rfl⟩
  have F40 := fun_mk (st := slaw) l40 c40 k40
  have FC := funC_mk (st := sslim_part) l12 c12
  refine ⟨fun p hp => by rw [List.mem_singleton.mp hp]; exact nTab, fun p hp => by rw [List.mem_singleton.mp hp]; exact PySem.W.codeHd_of_K X hCode, ?_⟩
  refine ⟨PySem.W.fnOf "law" "law" (defArgs slaw) (defBody slaw) (defScope slaw) .none kV40 dc40 pm40 an40 cd40 ct40, fun s v => .of_eq rfl, fun base _ _ TB => ?_⟩
  have G_law_cell_at := ok_cell (P := l.prog) (w := w) (mg := mg) (base := base) T F16
  have G_law_tape := ok_tape (P := l.prog) (w := w) (mg := mg) (base := base) T F17 G_law_cell_at R16
  have G_law_digit := ok_dig (P := l.prog) (w := w) (mg := mg) (base := base) F18
  have G_law_words := ok_words (P := l.prog) (w := w) (mg := mg) (base := base) T F19 G_law_digit R18
  have G_law_number := ok_num (P := l.prog) (w := w) (mg := mg) (base := base) F20 G_law_digit R18
  have G_law_leaf := ok_leaf (P := l.prog) (w := w) (mg := mg) (base := base) T F21 G_law_digit R18 G_law_number R20
  have G_law_shares := ok_shares (P := l.prog) (w := w) (mg := mg) (base := base) T F22 G_law_digit R18
  have G_law_less_one := ok_less (P := l.prog) (w := w) (mg := mg) (base := base) F23
  have G_law_simple := all_simple (P := l.prog) (w := w) (mg := mg) (base := base) T F28 G_law_digit R18 G_law_leaf R21 R28
  have G_law_some_hand := ok_hand (P := l.prog) (w := w) (mg := mg) (base := base) T F29 G_law_digit R18
  have G_law_end := ok_end (P := l.prog) (w := w) (mg := mg) (base := base) T F30 G_law_digit R18 G_law_some_hand R29 G_law_less_one R23 G_law_simple R28
  have G_law_part := all_part (P := l.prog) (w := w) (mg := mg) (base := base) T F31 G_law_digit R18 G_law_some_hand R29 G_law_end R30 G_law_simple R28 G_law_shares R22 R31 8
  have G_law_turned_body := ok_tbody (P := l.prog) (w := w) (mg := mg) (base := base) T F32 G_law_digit R18 G_law_part R31
  have G_law_turned_book := ok_tbook (P := l.prog) (w := w) (mg := mg) (base := base) T F33 G_law_digit R18 G_law_tape R17 G_law_words R19 G_law_turned_body R32
  have Gterms_in := ok_tin (P := l.prog) (w := w) (mg := mg) (base := base) F4
  have Grest_of := ok_rest (P := l.prog) (w := w) (mg := mg) (base := base) F5
  have Ghand_of := ok_handof (P := l.prog) (w := w) (mg := mg) (base := base) F7
  have Gmet := ok_met (P := l.prog) (w := w) (mg := mg) (base := base) TrP F1 Grest_of R5.k R5.b
  have Gis_handed_to := ok_handed (P := l.prog) (w := w) (mg := mg) (base := base) T (PySem.W.mg_none_of X G z_any) F10 Gmet R1 R5 Ghand_of R7
  have Gis_passed_on := ok_passed (P := l.prog) (w := w) (mg := mg) (base := base) F9
  have Gis_idle := ok_idle (P := l.prog) (w := w) (mg := mg) (base := base) F8 Gis_passed_on R9 Gis_handed_to R10
  have Glast_taken := ok_last (P := l.prog) (w := w) (mg := mg) (base := base) T F3
  have Gwith_rest := ok_wr (P := l.prog) (w := w) (mg := mg) (base := base) T F6
  have Ghanded_instead := ok_hi (P := l.prog) (w := w) (mg := mg) (base := base) F13 Ghand_of R7 Gwith_rest R6
  have Grem : ∀ j k : Str, _ := fun j k => okL_remade (P := l.prog) (w := w) (mg := mg) (base := base) (kl := 4) TrP TrP.V (hand1 j k) (renP j k) (renP_eq j k) (fun k z => z.tk k) (tabs_jx [(pt, ("slim_part.<locals>.<lambda>" : Str))]) T F2 Grest_of R5.k R5.b Glast_taken R3
  have Gslim_part := ok_sp (P := l.prog) (w := w) (mg := mg) (base := base) T TB (List.mem_singleton.mpr rfl) (fun p hp _ => by rw [List.mem_singleton.mp hp]) FC Gwith_rest R6 Gis_idle R8 Gis_passed_on R9 Grem R2 R5 Ghanded_instead R13
  have GremS := okJ_remade (P := l.prog) (w := w) (mg := mg) (base := base) TrS TrP.V slimG slimP slimP_eq (fun k z => z.tk k) (tabs_jx [(pt, ("slim_part.<locals>.<lambda>" : Str))]) T F2 (kids_S Grest_of) R5.k R5.b Glast_taken R3 Gslim_part R12.k R12.b
  have Gslim := ok_slim (P := l.prog) (w := w) (mg := mg) (base := base) T F11 GremS R2 R5 R12
  have G_law_is_word := ok_iw (P := l.prog) (w := w) (mg := mg) (base := base) T F34
  have G_law_whole := ok_wh (P := l.prog) (w := w) (mg := mg) (base := base) T F35
  have G_law_good_term := all_gt (P := l.prog) (w := w) (mg := mg) (base := base) T F36 R36 G_law_whole R35 2
  have G_law_good_part := all_gp (P := l.prog) (w := w) (mg := mg) (base := base) T F37 R37 G_law_good_term R36 13
  have G_law_good := ok_good (P := l.prog) (w := w) (mg := mg) (base := base) T (PySem.W.mg_none_of X G z_set) F38 G_law_good_part R37 G_law_is_word R34
  have Gbent_in := ok_bentin (P := l.prog) (w := w) (mg := mg) (base := base) T (PySem.W.mg_of X G qHOME) ⟨_, rfl⟩ F15 Ghand_of R7 Gterms_in R4 Grest_of R5
  have Gbent_at := ok_bentat (P := l.prog) (w := w) (mg := mg) (base := base) F14 Gbent_in R15
  have G_law_numbers := ok_nums (P := l.prog) (w := w) (mg := mg) (base := base) T F24 G_law_digit R18
  have G_law_value := all_value (P := l.prog) (w := w) (mg := mg) (base := base) T F25 R25 64
  have G_law_along := ok_along (P := l.prog) (w := w) (mg := mg) (base := base) T F27 G_law_value R25
  have G_law_turned_run := ok_lrunT (P := l.prog) (w := w) (mg := mg) (base := base) T F26 G_law_along R27
  have G_law_first_runs := ok_fr (P := l.prog) (w := w) (mg := mg) (base := base) T F39 G_law_tape R17 G_law_digit R18 G_law_numbers R24
  exact ok_law T F40 ⟨_, _, G_law_tape, R17⟩ ⟨_, _, G_law_turned_book, R33⟩ ⟨_, _, G_law_digit, R18⟩ ⟨_, _, G_law_first_runs, R39⟩ ⟨_, _, G_law_turned_run, R26⟩ ⟨_, _, Gslim, R11⟩ ⟨_, _, G_law_good, R38⟩ ⟨_, _, Gbent_at, R14⟩
theorem walkT {l : PySem.W.OpenLaw} {q : Program} {loose : List Str} {XP : (Str → Option Value) → Heap → Prop} {YP : World → Heap → Prop} {d : DefRec} {K : Params → PySem.W.Frag} (hn : l.most = some 63) (hdf : d.params.defaults = [])
    (hY : ∀ (w : World) (h : Heap), YP w h → (K w.params).In h)
    (F : ∀ (w : World) (mg : Str → Option Value) (fa : Addr) (h : Heap), YP w h → (K w.params).In h → h.Ns mainGlobals mg → mg d.name = some (.ref fa) → ∃ ca pt : Addr, h.get? pt = some { cls := .none, data := .fields #[] } ∧
      (∀ p ∈ [(ca, pt)], (K w.params).lookup p.2 = none) ∧ (∀ p ∈ [(ca, pt)], PySem.W.CodeHd h p.1 p.2) ∧ ∃ fd : FuncData, (∀ (s : Shared) (u : Value), BindsTo s fd ⟨[u], []⟩ [("script", u)]) ∧ ∀ base : Heap, (K w.params).In base → base.Ns mainGlobals mg → LamX.TabB base mg ca pt → FnOk l.prog w (K w.params) mg base CX0 67 fa fd ["script"] (spLawT (K w.params) [(pt, ("slim_part.<locals>.<lambda>" : Str))])) :
    PySem.W.WalkO q loose XP YP l.row.toRowW d [] (fun f vs => PySem.call f vs) := by
  refine LamX.walk_ofTs (n := 63) (k := 67) (x := "script") (CX := fun _ => CX0) hn (by decide) hdf ⟨rfl, by decide, by decide⟩ hY (fun w mg fa h Y KX G hmg => ?_) (fun _ _ _ _ _ z => z)
  obtain ⟨ca, pt, hT, hN, hC, fd, hb, hF⟩ := F w mg fa h Y KX G hmg
  refine ⟨fd, [(ca, pt)], spLawT (K w.params) [(pt, ("slim_part.<locals>.<lambda>" : Str))], fun p hp => by rw [List.mem_singleton.mp hp]; exact hT, hN, hC, hb, fun H a ns hl _ hS hL => ⟨a, ns, rfl, hL, hl, fun p hp => ?_, fun _ => rfl⟩, fun base hK hG hTB => hF base hK hG (hTB _ (List.mem_singleton.mpr rfl))⟩
  rw [List.mem_singleton.mp hp]
  exact LamX.TabS.nil (hS _ (List.mem_singleton.mpr rfl))
end KB

open PySem PySem.W PyProof.Rows in
set_option maxRecDepth 100000 in
set_option maxHeartbeats 0 in
theorem PySem.Challenge.cw_whatnext_k40_whole_slim_runs_holds : PySem.Challenge.rw_whatnext_k40_whole_slim_runs.Holds := by
  w_on; o_law; k_head; (case hw => w_witness2)
  k_fill
  refine KB.walkT (l := PySem.Challenge.rw_whatnext_k40_whole_slim_runs) rfl rfl (fun w h Y => PySem.W.km_in_of Y) ?F
  case F =>
    intro w mg fa h Y KX G hmg
    km_tabs Y
    refine' ⟨_, _, hT8 _ List.mem_cons_self, KB.all_mk KX G hmg ?a1 ?l1 ?c1 ?k1 ?a2 ?l2 ?c2 ?k2 ?a3 ?l3 ?c3 ?k3 ?a4 ?l4 ?c4 ?k4 ?a5 ?l5 ?c5 ?k5 ?a6 ?l6 ?c6 ?k6 ?a7 ?l7 ?c7 ?k7 ?a8 ?l8 ?c8 ?k8 ?a9 ?l9 ?c9 ?k9 ?a10 ?l10 ?c10 ?k10 ?a11 ?l11 ?c11 ?k11 ?a12 ?l12 ?c12 ?k12 ?a13 ?l13 ?c13 ?k13 ?a14 ?l14 ?c14 ?k14 ?a15 ?l15 ?c15 ?k15 ?a16 ?l16 ?c16 ?k16 ?a17 ?l17 ?c17 ?k17 ?a18 ?l18 ?c18 ?k18 ?a19 ?l19 ?c19 ?k19 ?a20 ?l20 ?c20 ?k20 ?a21 ?l21 ?c21 ?k21 ?a22 ?l22 ?c22 ?k22 ?a23 ?l23 ?c23 ?k23 ?a24 ?l24 ?c24 ?k24 ?a25 ?l25 ?c25 ?k25 ?a26 ?l26 ?c26 ?k26 ?a27 ?l27 ?c27 ?k27 ?a28 ?l28 ?c28 ?k28 ?a29 ?l29 ?c29 ?k29 ?a30 ?l30 ?c30 ?k30 ?a31 ?l31 ?c31 ?k31 ?a32 ?l32 ?c32 ?k32 ?a33 ?l33 ?c33 ?k33 ?a34 ?l34 ?c34 ?k34 ?a35 ?l35 ?c35 ?k35 ?a36 ?l36 ?c36 ?k36 ?a37 ?l37 ?c37 ?k37 ?a38 ?l38 ?c38 ?k38 ?a39 ?l39 ?c39 ?k39 ?a40 ?l40 ?c40 ?k40 ?z_len ?z_isinstance ?z_int ?z_tuple ?z_list ?z_str ?z_bool ?z_max ?z_all ?z_dict ?z_range ?z_enumerate ?z_reversed ?z_any ?z_set ?qHOME ?nTab ?hCode⟩
    (case a1 => k_is)
    (case l1 => k_is)
    (case c1 => k_is)
    (case k1 => k_is)
    (case a2 => k_is)
    (case l2 => k_is)
    (case c2 => k_is)
    (case k2 => k_is)
    (case a3 => k_is)
    (case l3 => k_is)
    (case c3 => k_is)
    (case k3 => k_is)
    (case a4 => k_is)
    (case l4 => k_is)
    (case c4 => k_is)
    (case k4 => k_is)
    (case a5 => k_is)
    (case l5 => k_is)
    (case c5 => k_is)
    (case k5 => k_is)
    (case a6 => k_is)
    (case l6 => k_is)
    (case c6 => k_is)
    (case k6 => k_is)
    (case a7 => k_is)
    (case l7 => k_is)
    (case c7 => k_is)
    (case k7 => k_is)
    (case a8 => k_is)
    (case l8 => k_is)
    (case c8 => k_is)
    (case k8 => k_is)
    (case a9 => k_is)
    (case l9 => k_is)
    (case c9 => k_is)
    (case k9 => k_is)
    (case a10 => k_is)
    (case l10 => k_is)
    (case c10 => k_is)
    (case k10 => k_is)
    (case a11 => k_is)
    (case l11 => k_is)
    (case c11 => k_is)
    (case k11 => k_is)
    (case a12 => k_is)
    (case l12 => k_is)
    (case c12 => k_is)
    (case k12 => k_is)
    (case a13 => k_is)
    (case l13 => k_is)
    (case c13 => k_is)
    (case k13 => k_is)
    (case a14 => k_is)
    (case l14 => k_is)
    (case c14 => k_is)
    (case k14 => k_is)
    (case a15 => k_is)
    (case l15 => k_is)
    (case c15 => k_is)
    (case k15 => k_is)
    (case a16 => k_is)
    (case l16 => k_is)
    (case c16 => k_is)
    (case k16 => k_is)
    (case a17 => k_is)
    (case l17 => k_is)
    (case c17 => k_is)
    (case k17 => k_is)
    (case a18 => k_is)
    (case l18 => k_is)
    (case c18 => k_is)
    (case k18 => k_is)
    (case a19 => k_is)
    (case l19 => k_is)
    (case c19 => k_is)
    (case k19 => k_is)
    (case a20 => k_is)
    (case l20 => k_is)
    (case c20 => k_is)
    (case k20 => k_is)
    (case a21 => k_is)
    (case l21 => k_is)
    (case c21 => k_is)
    (case k21 => k_is)
    (case a22 => k_is)
    (case l22 => k_is)
    (case c22 => k_is)
    (case k22 => k_is)
    (case a23 => k_is)
    (case l23 => k_is)
    (case c23 => k_is)
    (case k23 => k_is)
    (case a24 => k_is)
    (case l24 => k_is)
    (case c24 => k_is)
    (case k24 => k_is)
    (case a25 => k_is)
    (case l25 => k_is)
    (case c25 => k_is)
    (case k25 => k_is)
    (case a26 => k_is)
    (case l26 => k_is)
    (case c26 => k_is)
    (case k26 => k_is)
    (case a27 => k_is)
    (case l27 => k_is)
    (case c27 => k_is)
    (case k27 => k_is)
    (case a28 => k_is)
    (case l28 => k_is)
    (case c28 => k_is)
    (case k28 => k_is)
    (case a29 => k_is)
    (case l29 => k_is)
    (case c29 => k_is)
    (case k29 => k_is)
    (case a30 => k_is)
    (case l30 => k_is)
    (case c30 => k_is)
    (case k30 => k_is)
    (case a31 => k_is)
    (case l31 => k_is)
    (case c31 => k_is)
    (case k31 => k_is)
    (case a32 => k_is)
    (case l32 => k_is)
    (case c32 => k_is)
    (case k32 => k_is)
    (case a33 => k_is)
    (case l33 => k_is)
    (case c33 => k_is)
    (case k33 => k_is)
    (case a34 => k_is)
    (case l34 => k_is)
    (case c34 => k_is)
    (case k34 => k_is)
    (case a35 => k_is)
    (case l35 => k_is)
    (case c35 => k_is)
    (case k35 => k_is)
    (case a36 => k_is)
    (case l36 => k_is)
    (case c36 => k_is)
    (case k36 => k_is)
    (case a37 => k_is)
    (case l37 => k_is)
    (case c37 => k_is)
    (case k37 => k_is)
    (case a38 => k_is)
    (case l38 => k_is)
    (case c38 => k_is)
    (case k38 => k_is)
    (case a39 => k_is)
    (case l39 => k_is)
    (case c39 => k_is)
    (case k39 => k_is)
    (case a40 => k_is)
    (case l40 => k_is)
    (case c40 => k_is)
    (case k40 => k_is)
    (case z_len => k_is)
    (case z_isinstance => k_is)
    (case z_int => k_is)
    (case z_tuple => k_is)
    (case z_list => k_is)
    (case z_str => k_is)
    (case z_bool => k_is)
    (case z_max => k_is)
    (case z_all => k_is)
    (case z_dict => k_is)
    (case z_range => k_is)
    (case z_enumerate => k_is)
    (case z_reversed => k_is)
    (case z_any => k_is)
    (case z_set => k_is)
    (case qHOME => k_is)
    (case nTab => kernel_rfl)
    (case hCode => kernel_rfl)
#print axioms PySem.Challenge.cw_whatnext_k40_whole_slim_runs_holds
