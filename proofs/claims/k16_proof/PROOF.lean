import PyProof.Rows.All
import Wide.All
import OpenK.AllK
import Wide.FinOn
import HandS.ForMost
import HandS.TupAny
import HandS.Style
import HandS.IsInst
import HandS.Star
import HandS.RevRange
import HandS.Wide
import HandS.Conv
import PyProof.StrOps2
import HandS.Evl
import HandS.Flow
import HandS.CallLocal
import HandS.DictComp
import HandS.Rev
import HandS.Comp
import HandS.Zip0
import PyProof.Draws
import PyProof.EnumMake
import KE.DataCmp
import HandS.Lambda
import HandS.Nested
import HandS.EndTab
import KE.KNestM
import HandS.Walk
import HandS.More
import HandS.Text
import HandS.TryOnly
import HandS.Strs
import PyProof.Rows.SetFrom
import PySem.Challenge.RW_whatnext_k16_books_turned
set_option Elab.async false
set_option maxRecDepth 100000
set_option maxHeartbeats 8000000
set_option linter.unusedVariables false
namespace KB
open PySem L2
open PySem.AutoSeq1 PySem.MeetsSeq PySem.MeetsSeq2 PySem.MeetsSeq3

def top (i : Nat) : Stmt := (PySem.Challenge.pw_whatnext_k16_books_turned).main.body.getD i (.Pass ⟨0, 0, 0, 0⟩)

/-! ### two rules that the layer lacks: a list extended by a tuple, a text times a number -/
theorem ext_lt (l b : Addr) (us ws : Array Value) (n m : Nat) (dd : Option Addr) (sl : Array (Option Value))
    (h0 : ¬(!us.isEmpty && Builtin.List.listTooLong (us.size + ws.size)) = true) (h1 : us.size ≤ sizeLine) (h2 : us.size + ws.size ≤ sizeLine + 1) :
    Meets (Builtin.«list.extend» ⟨[.ref l, .ref b], []⟩) (fun _ R s => s.heap.get? l = some { cls := .type "list", dict := none, data := .seq us n, slots := #[] } ∧
      s.heap.get? b = some { cls := .type "tuple", dict := dd, data := .seq ws m, slots := sl } ∧
      R (.ok (.ret Value.none)) { s with heap := s.heap.update l (Obj.mapSeq fun x => x ++ ws), toks := s.toks }) := by
  refine .of_wp fun prog w A R s h => ?_
  obtain ⟨hp, g, d, tk, os⟩ := s
  obtain ⟨hl, hb, h⟩ := h
  have f1 := idx_int; have f2 := sub_tuple_tuple; have f3 := sub_list_list; have f4 := sub_tuple_list; have f5 := sub_list_tuple
  have hz' : (us ++ ws).size ≤ sizeLine + 1 := by
    rw [Array.size_append]
    exact h2
  wp_walk using (wpAny_updateSeq hl rfl (hz := h1) (_hz' := hz')), wpAny_loadPart' hl, wpAny_loadPart' hb
  exact ⟨_, rfl, h⟩
section
variable {X : Cx}
def rExtT (K : PySem.W.Frag) : V → List V → Hp → VK → Prop := fun x vs H Q => ∃ l b xs zs, x = .ref l ∧ vs = [.ref b] ∧ H l = some (.lst xs) ∧ SqT K H b zs ∧ xs.length + zs.length ≤ sizeLine ∧ Q .non (upd H l (.lst (xs ++ zs)))
theorem mt_extT : MtR X "list.extend" (rExtT X.K) := by
  intro pins s σ H x vs v us Q I rx rv h
  obtain ⟨l, b, xs, zs, rfl, rfl, hH, hB, hz, q⟩ := h
  cases rx
  obtain ⟨u, rfl, ru⟩ := rv.one
  cases ru
  obtain ⟨z, its, n, r, hl, e⟩ := I.lstM hH
  obtain ⟨its2, r2, ⟨⟨c2, d2, a2, s2⟩, e2, hc, n2, hd⟩, _⟩ := I.tuple hB
  cases hc
  cases hd
  have hl2 := r2.length
  have hsz : its.toArray.size + its2.toArray.size ≤ sizeLine := by
    rw [List.size_toArray, List.size_toArray]
    omega
  have hlong : ¬ (!its.toArray.isEmpty && Builtin.List.listTooLong (its.toArray.size + its2.toArray.size)) = true := by
    rw [notLongL hsz, Bool.and_false]
    exact Bool.false_ne_true
  refine call_meets F.slot_list_extend ⟨_, e, rfl⟩ F.entry_list_extend (F.args_list_extend_2 _ _)
    (ext_lt l b its.toArray its2.toArray n n2 d2 s2 hlong (by rw [List.size_toArray]; omega) (by omega)) ⟨e, e2, ?_⟩
  exact ⟨.non, _, I.lset (its' := its ++ its2) hH e (by simp) (r.append r2) (by rw [List.length_append]; exact hz), rfl, q⟩
end
end KB

namespace KB
open PySem L2

/-! ### terms as data -/
inductive Hd | num (z : Int) | nam (x : Str) | plus | less | tell | lett (x : Str) | iff | ask (f : Str)
inductive Tm | mk (h : Hd) (n : Nat) (k : Fin n → Tm)
def hs : Hd → Str
  | .num _ => "number" | .nam _ => "name" | .plus => "plus" | .less => "less" | .tell => "tell" | .lett _ => "let" | .iff => "if" | .ask _ => "ask"
/-- what stands at a, xs being its parts -/
def Lay (H : Hp) (a : Addr) : Hd → List V → Prop
  | .num z, xs => xs = [] ∧ H a = some (.tup [.str "number", .int z])
  | .nam x, xs => xs = [] ∧ H a = some (.tup [.str "name", .str x])
  | .plus, xs => xs.length = 2 ∧ H a = some (.tup (.str "plus" :: xs))
  | .less, xs => xs.length = 2 ∧ H a = some (.tup (.str "less" :: xs))
  | .tell, xs => xs.length = 1 ∧ H a = some (.tup (.str "tell" :: xs))
  | .lett x, xs => xs.length = 2 ∧ H a = some (.tup (.str "let" :: .str x :: xs))
  | .iff, xs => xs.length = 3 ∧ H a = some (.tup (.str "if" :: xs))
  | .ask f, xs => xs.length ≤ 4 ∧ ∃ p, H a = some (.tup [.str "ask", .str f, .ref p]) ∧ H p = some (.tup xs)
def Rfs {n : Nat} (ys : Fin n → Addr) : List V := List.ofFn fun i => V.ref (ys i)
def At (H : Hp) : Tm → Addr → Prop
  | .mk h n k, a => ∃ ys : Fin n → Addr, Lay H a h (Rfs ys) ∧ ∀ i, At H (k i) (ys i)
def cnt : Tm → Nat
  | .mk _ _ k => 1 + (List.ofFn fun i => cnt (k i)).sum
def places : Tm → List (List Int)
  | .mk _ n k => [] :: (List.ofFn fun i : Fin n => (places (k i)).map ((i.val : Int) :: ·)).flatten
def flatHd : Hd → Bool
  | .num _ | .nam _ | .plus | .less => true
  | _ => false
def simple : Tm → Bool
  | .mk h _ k => flatHd h && (List.ofFn fun i => simple (k i)).all id
def letsOf : Tm → List Str
  | .mk h _ k => (match h with | .lett x => [x] | _ => []) ++ (List.ofFn fun i => letsOf (k i)).flatten

theorem Lay.mono {H H' : Hp} (e : Same H H') {a : Addr} {h : Hd} {xs : List V} (l : Lay H a h xs) : Lay H' a h xs := by
  cases h with
  | ask f => obtain ⟨z, p, h1, h2⟩ := l; exact ⟨z, p, e _ _ h1, e _ _ h2⟩
  | _ => exact ⟨l.1, e _ _ l.2⟩
theorem At.mono {H H' : Hp} (e : Same H H') : ∀ {t : Tm} {a : Addr}, At H t a → At H' t a := by
  intro t
  induction t with
  | mk h n k ih =>
    rintro a ⟨ys, l, r⟩
    exact ⟨ys, l.mono e, fun i => ih i (r i)⟩
/-- every node begins with its word -/
theorem Lay.head {H : Hp} {a : Addr} {h : Hd} {xs : List V} (l : Lay H a h xs) : ∃ r, H a = some (.tup (.str (hs h) :: r)) := by
  cases h with
  | ask f => obtain ⟨z, p, h1, h2⟩ := l; exact ⟨_, h1⟩
  | _ => exact ⟨_, l.2⟩

theorem same_new {H : Hp} {p : Addr} (h : H p = none) (o : HO) : Same H (upd H p o) := fun b u q => by
  rw [upd_ne (ne_of_none q h)]
  exact q
theorem sIx_at {n d : Nat} {i : Int} (h0 : 0 ≤ i) (h : i.toNat ≤ n) : HT.sIx n d (some i) = i.toNat := by
  show (if i < 0 then (i + (n : Int)).toNat else min i.toNat n) = i.toNat
  rw [if_neg (by omega)]
  omega
theorem sIx_no {n d : Nat} : HT.sIx n d none = d := rfl
theorem not_whole {xs : List V} {i : Int} (h0 : 0 < i) (h : i.toNat ≤ xs.length) : ¬ (HT.sIx xs.length 0 (some i) = 0 ∧ HT.sIx xs.length xs.length none = xs.length) := by
  rw [sIx_at (by omega) h]
  omega
theorem cut_from {xs : List V} {i : Int} (h0 : 0 ≤ i) (h : i.toNat ≤ xs.length) : cutV xs (some i) none = xs.drop i.toNat := by
  unfold cutV
  rw [sIx_at h0 h, sIx_no, List.take_of_length_le (by rw [List.length_drop]; exact Nat.le_refl _)]
theorem len1 {α : Type} {x : α} {r : List α} : 1 ≤ (x :: r).length := Nat.succ_le_succ (Nat.zero_le _)
theorem len2 {α : Type} {x y : α} {r : List α} : 2 ≤ (x :: y :: r).length := Nat.succ_le_succ len1
theorem cut1 {x : V} {r : List V} : cutV (x :: r) (some 1) none = r := cut_from (i := 1) (by decide) len1
theorem cut2 {x y : V} {r : List V} : cutV (x :: y :: r) (some 2) none = r := cut_from (i := 2) (by decide) len2
theorem itT {b : Bool} {A B : Prop} (e : b = true) (h : A) : if b = true then A else B := by
  rw [if_pos e]
  exact h
theorem itF {b : Bool} {A B : Prop} (e : b = false) (h : B) : if b = true then A else B := by
  rw [if_neg (by rw [e]; exact Bool.false_ne_true)]
  exact h
theorem at0 {x : V} {r : List V} : atI (x :: r) 0 = some x := at_of (j := 0) rfl rfl
theorem at1 {x y : V} {r : List V} : atI (x :: y :: r) 1 = some y := at_of (j := 1) rfl rfl
theorem at2 {x y z : V} {r : List V} : atI (x :: y :: z :: r) 2 = some z := at_of (j := 2) rfl rfl
theorem sz {n : Nat} (h : n ≤ 100000) : n ≤ sizeLine := Nat.le_trans h (by decide)
/-- the facts of the top -/
structure Ref (K : PySem.W.Frag) (mg : Str → Option Value) (x : Str) (f : Addr) (fd : FuncData) (ps : List Str) : Prop where
  m : mg x = some (.ref f)
  k : PySem.W.keepIn K (.ref f) = true
  b : Binds K fd ps []
structure Txt (K : PySem.W.Frag) (mg : Str → Option Value) : Prop where
  m_len : mg "len" = none
  m_isinstance : mg "isinstance" = none
  m_int : mg "int" = none
  m_tuple : mg "tuple" = none
  m_list : mg "list" = none
  m_str : mg "str" = none
  m_bool : mg "bool" = none
  m_max : mg "max" = none
  m_all : mg "all" = none
  m_dict : mg "dict" = none
  m_range : mg "range" = none
  m_enumerate : mg "enumerate" = none
  m_reversed : mg "reversed" = none

section
variable {P : Program} {w : World} {K : PySem.W.Frag} {mg : Str → Option Value} {base : Heap}
/-! ### parts_of and _law_parts -/
def spParts : Sp := fun vs H Q _ => ∃ a h xs, vs = [.ref a] ∧ Lay H a h xs ∧ ∀ p H', Same H H' → H' p = some (.tup xs) → Q (.ref p) H'
abbrev sparts_of : Stmt := top 4
theorem scparts_of : FnScope ["term"] ["term"] (defScope sparts_of) := ⟨rfl, rfl, rfl, by decide +kernel, rfl, by decide +kernel, by decide +kernel⟩
theorem ok_parts {f : Addr} {fd : FuncData} (F : Fun K "parts_of" "parts_of" sparts_of f fd) : FnOk P w K mg base CX0 1 f fd ["term"] spParts := by
  refine F.ok scparts_of (fun vs H Q E h => ?_) (fun cdv A outer s H vs Q E hr h => ?_)
  · obtain ⟨a, h, xs, rfl, _⟩ := h
    rfl
  obtain ⟨a, h, xs, rfl, l, q⟩ := h
  refine ⟨_, (pss_cons (ps_if (pt_cmpR op_in_seq (pe_ix ix_tup (pv 0) pe_int (fun _ _ => rfl)) (pe_tup (pa_cons pe_str (pa_cons pe_str pa_nil))) rfl) (pss_one (ps_ret (pe_tup pa_nil))) pss_nil)
    (pss_cons (ps_if (pt_cmpR op_eq (pe_ix ix_tup (pv 0) pe_int (fun _ _ => rfl)) pe_str (nomark _)) (pss_one (ps_ret (pe_ix ix_tup (pv 0) pe_int (fun _ _ => rfl)))) pss_nil)
    (pss_cons (ps_if (pt_cmpR op_eq (pe_ix ix_tup (pv 0) pe_int (fun _ _ => rfl)) pe_str (nomark _)) (pss_one (ps_ret (pe_slice sl_tupA (pv 0) (po_some pe_int) po_none))) pss_nil)
    (pss_one (ps_ret (pe_slice sl_tupA (pv 0) (po_some pe_int) po_none)))))), ?_⟩
  obtain ⟨r, hd⟩ := l.head
  refine ⟨_, rfl, a, _, _, _, rfl, rfl, SqT.of hd, at0, sz (by show 2 ≤ 100000; decide), fun t ht => ?_⟩
  have s1 := same_new ht (.tup [.str "number", .str "name"])
  have l1 := l.mono s1
  refine ⟨t, _, rfl, .inr (SqT.of upd_same), rfl, rfl, _, rfl, ?_⟩
  cases h with
  | num z =>
    refine itT rfl ⟨sz (by decide), fun p hp => q p _ (s1.trans (same_new hp _)) ?_⟩
    rw [l.1, upd_same]
  | nam z =>
    refine itT rfl ⟨sz (by decide), fun p hp => q p _ (s1.trans (same_new hp _)) ?_⟩
    rw [l.1, upd_same]
  | ask f =>
    obtain ⟨l1, p, l2, l3⟩ := l
    refine itF rfl ⟨_, rfl, a, _, _, _, rfl, rfl, SqT.of (s1 _ _ l2), at0, rfl, _, rfl, ?_⟩
    refine itT rfl ⟨_, rfl, a, _, _, _, rfl, rfl, SqT.of (s1 _ _ l2), at2, ?_⟩
    exact q p _ s1 (s1 _ _ l3)
  | lett x =>
    refine itF rfl ⟨_, rfl, a, _, _, _, rfl, rfl, SqT.of (s1 _ _ l.2), at0, rfl, _, rfl, ?_⟩
    refine itF rfl ⟨_, rfl, a, _, _, _, rfl, rfl, SqT.of (s1 _ _ l.2), at0, rfl, _, rfl, ?_⟩
    refine itT rfl ⟨_, rfl, _, rfl, a, _, rfl, SqT.of (s1 _ _ l.2), ?_, ?_⟩
    · exact fun z => absurd z (not_whole (by decide) len2)
    · intro _ p hp
      refine q p _ (s1.trans (same_new hp _)) ?_
      rw [upd_same, cut2]
  | plus | less | tell | iff =>
    refine itF rfl ⟨_, rfl, a, _, _, _, rfl, rfl, SqT.of (s1 _ _ l.2), at0, rfl, _, rfl, ?_⟩
    refine itF rfl ⟨_, rfl, a, _, _, _, rfl, rfl, SqT.of (s1 _ _ l.2), at0, rfl, _, rfl, ?_⟩
    refine itF rfl ⟨_, rfl, _, rfl, a, _, rfl, SqT.of (s1 _ _ l.2), ?_, ?_⟩
    · exact fun z => absurd z (not_whole (by decide) len1)
    · intro _ p hp
      refine q p _ (s1.trans (same_new hp _)) ?_
      rw [upd_same, cut1]
end
end KB

namespace KB
open PySem L2

/-! ### rules and small facts -/
def repS (z : Str) (k : Int) : Str := ⟨(List.replicate k.toNat z.cps).foldl (· ++ ·) #[]⟩
def rMulS : R2 := fun x y H Q => ∃ z k, x = .str z ∧ y = .int k ∧ 1 ≤ k ∧ k ≤ 1000 ∧ 1 ≤ z.length ∧ z.length ≤ 1000 ∧ Q (.str (repS z k)) H
theorem repS_one (z : Str) : repS z 1 = z := by
  unfold repS
  show (⟨#[] ++ z.cps⟩ : Str) = z
  rw [Array.empty_append]
theorem size_rep (xs : Array Nat) : ∀ (k : Nat) (acc : Array Nat), ((List.replicate k xs).foldl (· ++ ·) acc).size = acc.size + k * xs.size
  | 0, acc => by
    rw [Nat.zero_mul]
    rfl
  | k + 1, acc => by
    rw [List.replicate_succ, List.foldl_cons, size_rep xs k, Array.size_append, Nat.succ_mul]
    omega
theorem op_mul_str {X : Cx} : OpR X (binaryOp .Mult) rMulS := by
  intro pins s σ H x y v u Q I rx ry h
  obtain ⟨z, k, rfl, rfl, h1, h2, h3, h4, q⟩ := h
  obtain ⟨t, rfl⟩ := rx
  obtain ⟨t', rfl⟩ := ry
  refine PySem.P.mul_str ?_ ?_ ?_ ?_
  · rw [decide_eq_false (by omega), decide_eq_false (by omega)]
    rfl
  · intro _ _
    have e1 : (1000 : Int) * k ≤ 1000000 := by omega
    have e2 : (9223372036854775807 : Int) / k ≥ 9223372036854775 := by
      have e3 : (9223372036854775807 : Int) / k ≥ 9223372036854775807 / 1000 := by
        refine Int.le_ediv_of_mul_le (by omega) ?_
        have : (9223372036854775807 / 1000 : Int) = 9223372036854775 := by decide
        rw [this]
        have : (9223372036854775 : Int) * k ≤ 9223372036854775 * 1000 := Int.mul_le_mul_of_nonneg_left h2 (by decide)
        omega
      have : (9223372036854775807 / 1000 : Int) = 9223372036854775 := by decide
      omega
    have e4 : ((2 : Int) ^ 63 - 1) = 9223372036854775807 := by decide
    rw [e4]
    omega
  · intro _ _
    have e : z.length * k.toNat ≤ 1000 * 1000 := Nat.mul_le_mul h4 (by omega)
    exact decide_eq_false (by show ¬ _ > sizeLine; exact Nat.not_lt.mpr (Nat.le_trans e (by decide)))
  · rw [if_neg (by omega)]
    have hz : (z.length == 0) = false := by
      rw [beq_eq_false_iff_ne]
      omega
    by_cases hk : k = 1
    · subst hk
      rw [if_pos (by rfl)]
      rw [repS_one] at q
      exact ⟨.str z, H, I, ⟨t, rfl⟩, q⟩
    · have hk2 : (k == 1) = false := by
        rw [beq_eq_false_iff_ne]
        exact hk
      rw [if_neg (by rw [hk2, hz]; decide)]
      have e : z.length * k.toNat ≤ 1000 * 1000 := Nat.mul_le_mul h4 (by omega)
      have e2 := size_rep z.cps k.toNat #[]
      refine ⟨?_, .str (repS z k), H, I.tok _, ⟨_, rfl⟩, q⟩
      show (List.foldl (fun x1 x2 => x1 ++ x2) #[] (List.replicate k.toNat z.cps)).size ≤ sizeLine
      rw [e2, Nat.mul_comm]
      show 0 + z.length * k.toNat ≤ sizeLine
      rw [Nat.zero_add]
      exact Nat.le_trans e (by decide)

/-! ### stacks of terms -/
def Stk (H : Hp) : List V → List Tm → Prop
  | [], [] => True
  | v :: vs, t :: ts => (∃ b, v = .ref b ∧ At H t b) ∧ Stk H vs ts
  | _, _ => False
theorem Stk.mono {H H' : Hp} (e : Same H H') : ∀ {vs : List V} {ts : List Tm}, Stk H vs ts → Stk H' vs ts
  | [], [], _ => trivial
  | _ :: _, _ :: _, h => ⟨let ⟨b, e1, h1⟩ := h.1; ⟨b, e1, h1.mono e⟩, Stk.mono e h.2⟩
  | [], _ :: _, h => h.elim
  | _ :: _, [], h => h.elim
theorem Stk.app {H : Hp} : ∀ {vs us : List V} {ts ss : List Tm}, Stk H vs ts → Stk H us ss → Stk H (vs ++ us) (ts ++ ss)
  | [], _, [], _, _, k => k
  | _ :: _, _, _ :: _, _, h, k => ⟨h.1, Stk.app h.2 k⟩
  | [], _, _ :: _, _, h, _ => h.elim
  | _ :: _, _, [], _, h, _ => h.elim
theorem Stk.len {H : Hp} : ∀ {vs : List V} {ts : List Tm}, Stk H vs ts → vs.length = ts.length
  | [], [], _ => rfl
  | _ :: _, _ :: _, h => congrArg (· + 1) (Stk.len h.2)
  | [], _ :: _, h => h.elim
  | _ :: _, [], h => h.elim
theorem Stk.fn {H : Hp} : ∀ {n : Nat} {ys : Fin n → Addr} {k : Fin n → Tm}, (∀ i, At H (k i) (ys i)) → Stk H (Rfs ys) (List.ofFn k)
  | 0, _, _, _ => trivial
  | n + 1, ys, k, h => by
    unfold Rfs
    rw [List.ofFn_succ, List.ofFn_succ]
    exact ⟨⟨_, rfl, h 0⟩, Stk.fn (ys := fun i => ys i.succ) (k := fun i => k i.succ) fun i => h i.succ⟩
def cnts (ts : List Tm) : Nat := (ts.map cnt).sum
theorem cnts_app (a b : List Tm) : cnts (a ++ b) = cnts a + cnts b := by
  unfold cnts
  rw [List.map_append, List.sum_append]
theorem cnt_mk {h : Hd} {n : Nat} {k : Fin n → Tm} : cnt (.mk h n k) = 1 + cnts (List.ofFn k) := by
  show 1 + (List.ofFn fun i => cnt (k i)).sum = 1 + ((List.ofFn k).map cnt).sum
  rw [List.map_ofFn]
  rfl
theorem cnts_cons {t : Tm} {r : List Tm} : cnts (t :: r) = cnt t + cnts r := rfl
theorem cnt_pos : ∀ t : Tm, 1 ≤ cnt t
  | .mk _ _ _ => by rw [cnt_mk]; omega
section
variable {P : Program} {w : World} {K : PySem.W.Frag} {mg : Str → Option Value} {base : Heap}
theorem same_mut {H H' : Hp} {p : Addr} {o : HO} (e : Same H H') (h : H p = none) : Same H (upd H' p o) := fun a u ha => by
  rw [upd_ne (ne_of_none ha h)]
  exact e _ _ ha
/-- a list rewritten leaves the terms -/
theorem Lay.put {H : Hp} {l : Addr} {xs ys : List V} (hl : H l = some (.lst xs)) {a : Addr} {h : Hd} {us : List V} (q : Lay H a h us) : Lay (upd H l (.lst ys)) a h us := by
  have go : ∀ {b : Addr} {zs : List V}, H b = some (.tup zs) → upd H l (.lst ys) b = some (.tup zs) := fun {b zs} z => by
    rw [upd_ne (ne_of z hl (by intro e; cases e))]
    exact z
  cases h with
  | ask f => obtain ⟨z, p, h1, h2⟩ := q; exact ⟨z, p, go h1, go h2⟩
  | _ => exact ⟨q.1, go q.2⟩
theorem At.put {H : Hp} {l : Addr} {xs ys : List V} (hl : H l = some (.lst xs)) : ∀ {t : Tm} {a : Addr}, At H t a → At (upd H l (.lst ys)) t a := by
  intro t
  induction t with
  | mk h n k ih =>
    rintro a ⟨zs, q, r⟩
    exact ⟨zs, q.put hl, fun i => ih i (r i)⟩
theorem Stk.put {H : Hp} {l : Addr} {xs ys : List V} (hl : H l = some (.lst xs)) : ∀ {vs : List V} {ts : List Tm}, Stk H vs ts → Stk (upd H l (.lst ys)) vs ts
  | [], [], _ => trivial
  | _ :: _, _ :: _, h => ⟨let ⟨b, e1, h1⟩ := h.1; ⟨b, e1, h1.put hl⟩, Stk.put hl h.2⟩
  | [], _ :: _, h => h.elim
  | _ :: _, [], h => h.elim
end
end KB

namespace KB
open PySem L2

/-! ### what leaves the tuples -/
def TK (H H' : Hp) : Prop := ∀ a xs, H a = some (.tup xs) → H' a = some (.tup xs)
theorem TK.refl (H : Hp) : TK H H := fun _ _ h => h
theorem TK.trans {H H1 H2 : Hp} (a : TK H H1) (b : TK H1 H2) : TK H H2 := fun x o h => b x o (a x o h)
theorem tk_same {H H' : Hp} (e : Same H H') : TK H H' := fun a _ h => e a _ h
theorem tk_put {H : Hp} {l : Addr} {xs : List V} {o : HO} (hl : H l = some (.lst xs)) : TK H (upd H l o) := fun a zs z => by
  rw [upd_ne (ne_of z hl (by intro e; cases e))]
  exact z
theorem Lay.tk {H H' : Hp} (e : TK H H') {a : Addr} {h : Hd} {xs : List V} (l : Lay H a h xs) : Lay H' a h xs := by
  cases h with
  | ask f => obtain ⟨z, p, h1, h2⟩ := l; exact ⟨z, p, e _ _ h1, e _ _ h2⟩
  | _ => exact ⟨l.1, e _ _ l.2⟩
theorem At.tk {H H' : Hp} (e : TK H H') : ∀ {t : Tm} {a : Addr}, At H t a → At H' t a := by
  intro t
  induction t with
  | mk h n k ih =>
    rintro a ⟨ys, l, r⟩
    exact ⟨ys, l.tk e, fun i => ih i (r i)⟩

theorem Stk.tk {H H' : Hp} (e : TK H H') : ∀ {vs : List V} {ts : List Tm}, Stk H vs ts → Stk H' vs ts
  | [], [], _ => trivial
  | _ :: _, _ :: _, h => ⟨let ⟨b, e1, h1⟩ := h.1; ⟨b, e1, h1.tk e⟩, Stk.tk e h.2⟩
  | [], _ :: _, h => h.elim
  | _ :: _, [], h => h.elim
theorem Stk.get {H : Hp} : ∀ {vs : List V} {ts : List Tm} {i : Nat} {v : V}, Stk H vs ts → vs[i]? = some v → ∃ t, ts[i]? = some t ∧ ∃ b, v = .ref b ∧ At H t b
  | [], [], _, _, _, e => by simp at e
  | x :: vs, t :: ts, 0, v, h, e => ⟨t, rfl, by
    have e' : x = v := by simpa using e
    subst e'
    exact h.1⟩
  | x :: vs, t :: ts, i + 1, v, h, e => by
    obtain ⟨b, h1, h2⟩ := Stk.get (i := i) (v := v) h.2 (by simpa using e)
    exact ⟨b, by simpa using h1, h2⟩
  | [], _ :: _, _, _, h, _ => h.elim
  | _ :: _, [], _, _, h, _ => h.elim

/-! ### two lists, item by item -/
def All2 {α : Type} (R : α → V → Prop) : List α → List V → Prop
  | [], [] => True
  | a :: as, v :: vs => R a v ∧ All2 R as vs
  | _, _ => False
theorem All2.imp {α : Type} {R S : α → V → Prop} (e : ∀ a v, R a v → S a v) : ∀ {as : List α} {vs : List V}, All2 R as vs → All2 S as vs
  | [], [], _ => trivial
  | _ :: _, _ :: _, h => ⟨e _ _ h.1, All2.imp e h.2⟩
  | [], _ :: _, h => h.elim
  | _ :: _, [], h => h.elim
theorem All2.app {α : Type} {R : α → V → Prop} : ∀ {as bs : List α} {vs ws : List V}, All2 R as vs → All2 R bs ws → All2 R (as ++ bs) (vs ++ ws)
  | [], _, [], _, _, k => k
  | _ :: _, _, _ :: _, _, h, k => ⟨h.1, All2.app h.2 k⟩
  | [], _, _ :: _, _, h, _ => h.elim
  | _ :: _, _, [], _, h, _ => h.elim
theorem All2.len {α : Type} {R : α → V → Prop} : ∀ {as : List α} {vs : List V}, All2 R as vs → vs.length = as.length
  | [], [], _ => rfl
  | _ :: _, _ :: _, h => congrArg (· + 1) (All2.len h.2)
  | [], _ :: _, h => h.elim
  | _ :: _, [], h => h.elim
theorem All2.get {α : Type} {R : α → V → Prop} : ∀ {as : List α} {vs : List V} {i : Nat} {v : V}, All2 R as vs → vs[i]? = some v → ∃ a, as[i]? = some a ∧ R a v
  | [], [], _, _, _, e => by simp at e
  | a :: as, x :: vs, 0, v, h, e => ⟨a, rfl, by
    have e' : x = v := by simpa using e
    subst e'
    exact h.1⟩
  | a :: as, x :: vs, i + 1, v, h, e => by
    obtain ⟨b, h1, h2⟩ := All2.get (i := i) (v := v) h.2 (by simpa using e)
    exact ⟨b, by simpa using h1, h2⟩
  | [], _ :: _, _, _, h, _ => h.elim
  | _ :: _, [], _, _, h, _ => h.elim

end KB

namespace KB
open PySem L2

/-! ### books -/
abbrev Er := Str × List Str × Tm
def ErV (H : Hp) (e : Er) (v : V) : Prop := ∃ q r b, v = .ref q ∧ H q = some (.tup [.str e.1, .ref r, .ref b]) ∧ H r = some (.tup (e.2.1.map V.str)) ∧ At H e.2.2 b
theorem ErV.tk {H H' : Hp} (t : TK H H') {e : Er} {v : V} (h : ErV H e v) : ErV H' e v :=
  let ⟨q, r, b, e1, h1, h2, h3⟩ := h; ⟨q, r, b, e1, t _ _ h1, t _ _ h2, h3.tk t⟩
def BkAt (H : Hp) (es : List Er) (vs : List V) (p : Addr) : Prop := H p = some (.tup vs) ∧ All2 (ErV H) es vs
theorem BkAt.tk {H H' : Hp} (t : TK H H') {es : List Er} {vs : List V} {p : Addr} (h : BkAt H es vs p) : BkAt H' es vs p := ⟨t _ _ h.1, h.2.imp fun _ _ z => z.tk t⟩
theorem All2.map {α β : Type} {R : β → V → Prop} {f : α → β} : ∀ {as : List α} {vs : List V}, All2 (fun a v => R (f a) v) as vs → All2 R (as.map f) vs
  | [], [], _ => trivial
  | _ :: _, _ :: _, h => ⟨h.1, All2.map h.2⟩
  | [], _ :: _, h => h.elim
  | _ :: _, [], h => h.elim

section
variable {P : Program} {w : World} {K : PySem.W.Frag} {mg : Str → Option Value} {base : Heap}
theorem mem_of_get {α : Type} {l : List α} {i : Nat} {a : α} (h : l[i]? = some a) : a ∈ l := List.mem_of_getElem? h
end
end KB

namespace KB
open PySem L2

theorem catA_of {K : PySem.W.Frag} {H : Hp} {a b : Addr} {xs ys : List V} {Q : VK} (ha : H a = some (.tup xs)) (hb : H b = some (.tup ys)) (hl : xs.length + ys.length ≤ 100000)
    (q : ∀ p H', Same H H' → H' p = some (.tup (xs ++ ys)) → Q (.ref p) H') : rCatA K (.ref a) (.ref b) H Q := by
  refine ⟨a, b, xs, ys, rfl, rfl, SqT.of ha, SqT.of hb, sz hl, fun z => ?_, fun _ z => ?_, fun _ _ p hp => ?_⟩
  · refine q b H (Same.refl H) ?_
    rw [z]
    exact hb
  · refine q a H (Same.refl H) ?_
    rw [z, List.append_nil]
    exact ha
  · exact q p _ (same_new hp _) upd_same
def letsL (ts : List Tm) : List Str := (ts.map letsOf).flatten
def hdLets : Hd → List Str
  | .lett x => [x]
  | _ => []
theorem lets_mk {h : Hd} {n : Nat} {k : _root_.Fin n → Tm} : letsOf (.mk h n k) = hdLets h ++ letsL (List.ofFn k) := by
  have e : (List.ofFn fun i => letsOf (k i)) = (List.ofFn k).map letsOf := (List.map_ofFn ..).symm
  unfold letsL
  rw [← e]
  cases h <;> rfl
end KB

namespace KB
open PySem L2

/-! ### words as the program has them -/
def keptW : List Str := ["let", "be", "in", "tell", "if", "then", "else", "home", "zyzzyva"]
def small (c : Nat) : Bool := decide (97 ≤ c) && decide (c ≤ 122)
def isW (z : Str) : Bool := !keptW.contains z && (decide (1 ≤ z.length) && decide (z.length ≤ 8)) && z.cps.toList.all small
theorem isW_ok {z : Str} (h : isW z = true) : PySem.PyData.strOk z = true := by
  unfold isW at h
  rw [Bool.and_eq_true] at h
  have h2 := h.2
  rw [List.all_eq_true] at h2
  unfold PySem.PyData.strOk
  rw [← Array.all_toList, List.all_eq_true]
  intro c hc
  have := h2 c hc
  unfold small at this
  rw [Bool.and_eq_true] at this
  have := of_decide_eq_true this.2
  exact decide_eq_true (by omega)
/-- a word, or one of the two that an odd errand has -/
def zyz : Str := "zyzzyva"
def zyb : Str := "zyzzyvb"
def isV (z : Str) : Bool := isW z || decide (z = zyz) || decide (z = zyb)
theorem isV_of {z : Str} (h : isW z = true) : isV z = true := by
  unfold isV
  rw [h]
  rfl
theorem isV_ok {z : Str} (h : isV z = true) : PySem.PyData.strOk z = true := by
  unfold isV at h
  rcases Bool.or_eq_true_iff.mp h with h | h
  · rcases Bool.or_eq_true_iff.mp h with h | h
    · exact isW_ok h
    · rw [of_decide_eq_true h]; decide +kernel
  · rw [of_decide_eq_true h]; decide +kernel
/-! ### the tape and lists of words -/
def But1 (tp : Addr) (H H' : Hp) : Prop := ∀ b o, b ≠ tp → H b = some o → H' b = some o
def Tp (H : Hp) (tp : Addr) : Prop := ∃ z, H tp = some (.lst [.int z])
theorem But1.refl (tp : Addr) (H : Hp) : But1 tp H H := fun _ _ _ h => h
theorem But1.trans {tp : Addr} {H H1 H2 : Hp} (a : But1 tp H H1) (b : But1 tp H1 H2) : But1 tp H H2 := fun x o n h => b x o n (a x o n h)
theorem but_same {tp : Addr} {H H' : Hp} (e : Same H H') : But1 tp H H' := fun b o _ h => e b o h
theorem But1.tk {tp : Addr} {H H' : Hp} (ht : Tp H tp) (e : But1 tp H H') : TK H H' := fun a xs h => by
  obtain ⟨z, hz⟩ := ht
  exact e a _ (ne_of h hz (by intro q; cases q)) h
/-- a list of words -/
def Wls (H : Hp) (a : Addr) (xs : List Str) : Prop := H a = some (.lst (xs.map V.str)) ∧ ∀ x ∈ xs, isW x = true
theorem wls_tp {H : Hp} {a tp : Addr} {xs : List Str} (h : H a = some (.lst (xs.map V.str))) (t : Tp H tp) : a ≠ tp := by
  rintro rfl
  obtain ⟨z, hz⟩ := t
  rw [h] at hz
  have e := HO.lst.inj (Option.some.inj hz)
  cases xs with
  | nil => cases e
  | cons x r =>
    rw [List.map_cons] at e
    cases (List.cons.inj e).1
theorem Wls.but {tp a : Addr} {H H' : Hp} {xs : List Str} (e : But1 tp H H') (t : Tp H tp) (h : Wls H a xs) : Wls H' a xs := ⟨e _ _ (wls_tp h.1 t) h.1, h.2⟩
theorem dp_strs {K : PySem.W.Frag} {H : Hp} : ∀ xs : List Str, DpAll K H (xs.map V.str) (xs.map PyData.str)
  | [] => .nil
  | x :: r => .cons (.str x) (dp_strs r)
theorem lay_strs : ∀ {xs : List Str}, (∀ x ∈ xs, PySem.PyData.strOk x = true) → PySem.PyData.canLayAll0 (xs.map PyData.str) = true
  | [], _ => rfl
  | x :: r, h => by
    show (PySem.PyData.strOk x && PySem.PyData.canLayAll0 (r.map PyData.str)) = true
    rw [h x List.mem_cons_self, lay_strs fun y hy => h y (List.mem_cons_of_mem _ hy)]
    rfl
theorem shaped_of {d : PyData} (h1 : d.canLay0 = true) (h2 : d.depth ≤ 64) : SeqAt.shaped d = true := Bool.and_eq_true_iff.mpr ⟨h1, decide_eq_true h2⟩
theorem depth_strs : ∀ xs : List Str, PySem.PyData.depthAll (xs.map PyData.str) = 0
  | [] => rfl
  | x :: r => by
    show max (PySem.PyData.depth (.str x)) (PySem.PyData.depthAll (r.map PyData.str)) = 0
    rw [depth_strs r]
    rfl
theorem shaped_strs {xs : List Str} (h : ∀ x ∈ xs, isW x = true) : SeqAt.shaped (.list (xs.map PyData.str)) = true := by
  refine shaped_of (lay_strs fun x hx => isW_ok (h x hx)) ?_
  show PySem.PyData.depthAll (xs.map PyData.str) + 1 ≤ 64
  rw [depth_strs]
  decide
theorem eqv_nil (xs : List Str) : PyData.eqv (.list (xs.map PyData.str)) (.list []) = xs.isEmpty := by
  cases xs <;> rfl

section
variable {P : Program} {w : World} {K : PySem.W.Frag} {mg : Str → Option Value} {base : Heap}
/-! ### _law_cell_at -/
def spCell (K : PySem.W.Frag) : Sp := fun vs H Q _ => ∃ (a : Addr) (ns : List Int) (k : Int), vs = [.ref a, .int k] ∧ SqL K H a (ns.map V.int) ∧ 0 ≤ k ∧ ∀ z, Q (.int z) H
abbrev s_law_cell_at : Stmt := top 20
theorem scLcell_at : FnScope ["script", "k"] ["script", "k"] (defScope s_law_cell_at) := ⟨rfl, rfl, rfl, by decide +kernel, rfl, by decide +kernel, by decide +kernel⟩
theorem ok_cell (T : Txt K mg) {f : Addr} {fd : FuncData} (F : Fun K "_law_cell_at" "_law_cell_at" s_law_cell_at f fd) : FnOk P w K mg base CX0 1 f fd ["script", "k"] (spCell K) := by
  refine F.ok scLcell_at (fun vs H Q E h => ?_) (fun cdv A outer s H vs Q E hr h => ?_)
  · obtain ⟨a, ns, k, rfl, _⟩ := h
    rfl
  obtain ⟨a, ns, k, rfl, hS, h0, q⟩ := h
  refine ⟨_, (pss_cons (ps_if (pt_cmpR op_lt (pv 1) (pe_callB call_len_seq (by rfl) T.m_len PySem.boot_len (pa_cons (pv 0) pa_nil)) (nomark _)) (pss_one (ps_ret (pe_ix ix_list (pv 0) (pv 1) (fun _ _ => rfl)))) pss_nil)
    (pss_one (ps_ret pe_int))), ?_⟩
  refine ⟨_, rfl, _, rfl, a, _, rfl, .inl hS, _, _, rfl, rfl, _, rfl, ?_⟩
  refine ite2 (fun c => ?_) (fun c => ?_)
  · have c' : k < (((ns.map V.int).length : Nat) : Int) := of_decide_eq_true c
    rw [List.length_map] at c'
    have hk : k.toNat < ns.length := by omega
    refine ⟨_, rfl, _, rfl, a, _, _, .int ns[k.toNat], rfl, rfl, hS, at_of (j := k.toNat) (by omega) ?_, q _⟩
    rw [List.getElem?_map, List.getElem?_eq_getElem hk]
    rfl
  · exact q 0
/-! ### _law_tape -/
def spTape (K : PySem.W.Frag) : Sp := fun vs H Q _ => ∃ (a : Addr) (ns : List Int) (k : Int), vs = [.ref a, .int k] ∧ SqL K H a (ns.map V.int) ∧ 0 ≤ k ∧ k ≤ 1000 ∧ ∀ p z, H p = none → Q (.ref p) (upd H p (.lst [.int z]))
abbrev s_law_tape : Stmt := top 21
theorem scLtape : FnScope ["script", "k", "cell", "p", "one", "found", "turn"] ["script", "k"] (defScope s_law_tape) := ⟨rfl, rfl, rfl, by decide +kernel, rfl, by decide +kernel, by decide +kernel⟩
theorem ok_tape (T : Txt K mg) {f g : Addr} {fd gd : FuncData} (F : Fun K "_law_tape" "_law_tape" s_law_tape f fd) (G_law_cell_at : FnOk P w K mg base CX0 1 g gd ["script", "k"] (spCell K)) (R_law_cell_at : Ref K mg "_law_cell_at" g gd ["script", "k"]) : FnOk P w K mg base CX0 2 f fd ["script", "k"] (spTape K) := by
  refine F.ok scLtape (fun vs H Q E h => ?_) (fun cdv A outer s H vs Q E hr h => ?_)
  · obtain ⟨a, ns, k, rfl, _⟩ := h
    rfl
  obtain ⟨a, ns, k, rfl, hS, h0, h1, q⟩ := h
  refine ⟨_, (pss_cons (ps_set (i := 2) scLtape.nd rfl (Or.inl rfl) (pe_call G_law_cell_at hr rfl R_law_cell_at.m R_law_cell_at.k R_law_cell_at.b .nil pass0 (pa_cons (pv 0) (pa_cons (pv 1) pa_nil))))
    (pss_cons (ps_if (pt_cmpR op_eq (pv 2) pe_int (nomark _)) (pss_one (ps_ret (pe_lst (pa_cons pe_int pa_nil)))) pss_nil)
    (pss_cons (ps_if (pt_cmpR op_ge (pv 2) (pe_op op_pow pe_int pe_int) (nomark _)) (pss_one (ps_ret (pe_lst (pa_cons (pe_op op_sub (pv 2) (pe_op op_pow pe_int pe_int)) pa_nil)))) pss_nil)
    (pss_cons (ps_set (i := 3) scLtape.nd rfl (Or.inl rfl) pe_int)
    (pss_cons (ps_set (i := 4) scLtape.nd rfl (Or.inl rfl) (pe_op op_mod (pe_op op_add (pe_op op_add (pe_op op_mul (pv 2) pe_int) (pe_op op_mul pe_int (pv 1))) pe_int) (pv 3)))
    (pss_cons (ps_set (i := 5) scLtape.nd rfl (Or.inl rfl) (pv 4))
    (pss_cons (ps_for PassesOwn.never rfl (pi_range1 rfl T.m_range (pa_cons pe_int pa_nil)) (pg_name (i := 6) scLtape.nd rfl (Or.inl rfl)) (pss_cons (ps_set (i := 4) scLtape.nd rfl (Or.inl rfl) (pe_op op_mod (pe_op op_add (pe_op op_add (pe_op op_add (pe_op op_mul (pv 4) (pv 4)) (pe_op op_mul pe_int (pv 6))) (pv 2)) pe_int) (pv 3)))
    (pss_one (ps_set (i := 5) scLtape.nd rfl (Or.inl rfl) (pe_op op_add (pe_op op_mul (pv 5) (pv 3)) (pv 4))))))
    (pss_one (ps_ret (pe_lst (pa_cons (pv 5) pa_nil))))))))))), ?_⟩
  have b1 : ∀ x : Int, 0 ≤ x → x < 2305843009213693951 → -(2 ^ 64) < x ∧ x < 2 ^ 64 := fun x h1 h2 => by
    have e : (2 : Int) ^ 64 = 18446744073709551616 := by decide
    rw [e]
    omega
  refine ⟨_, rfl, _, rfl, a, ns, k, rfl, hS, h0, fun z => ?_⟩
  refine ⟨_, rfl, rfl, _, rfl, ?_⟩
  refine ite2 (fun c => ?_) (fun c => ?_)
  · exact ⟨sz (by show 1 ≤ 100000; decide), fun p hp => q p 0 hp⟩
  refine ⟨_, rfl, _, _, rfl, rfl, ⟨by decide, by decide, by decide⟩, _, _, rfl, rfl, _, rfl, ?_⟩
  refine ite2 (fun c => ?_) (fun c => ?_)
  · exact ⟨_, rfl, _, _, rfl, rfl, ⟨by decide, by decide, by decide⟩, _, _, rfl, rfl, sz (by show 1 ≤ 100000; decide), fun p hp => q p _ hp⟩
  refine ⟨_, rfl, _, _, rfl, rfl, .inr ⟨by decide, by decide⟩, _, rfl, _, _, rfl, rfl, .inl ⟨by decide, by decide⟩, _, _, rfl, rfl, _, _, rfl, rfl, _, rfl, _, _, rfl, rfl, (by show (0 : Int) < 2305843009213693951; decide), ?_⟩
  refine ⟨_, rfl, ?_⟩
  refine ⟨20, rfl, by decide, by decide, for_range (lo := 0) (n := 20) (fun i σ H' => ∃ one found o, σ = [some (.ref a), some (.int k), some (.int z), some (.int 2305843009213693951), some (.int one), some (.int found), o] ∧ H' = H ∧ 0 ≤ one ∧ one < 2305843009213693951) ?_ ?_ ?_⟩
  · exact ⟨_, _, _, rfl, rfl, Int.emod_nonneg _ (by decide), Int.emod_lt_of_pos _ (by decide)⟩
  · rintro i σ H' hi ⟨one, found, o, rfl, rfl, g0, g1⟩
    refine ⟨_, rfl, _, rfl, _, _, rfl, rfl, .inl (b1 one g0 g1), _, rfl, _, _, rfl, rfl, .inl ⟨by decide, by decide⟩, _, _, rfl, rfl, _, rfl, _, _, rfl, rfl, _, _, rfl, rfl, _, rfl, _, _, rfl, rfl, (by show (0 : Int) < 2305843009213693951; decide), ?_⟩
    refine ⟨_, rfl, _, rfl, _, _, rfl, rfl, .inr ⟨by decide, by decide⟩, _, rfl, _, _, rfl, rfl, ?_⟩
    exact ⟨_, _, _, rfl, rfl, Int.emod_nonneg _ (by decide), Int.emod_lt_of_pos _ (by decide)⟩
  · rintro σ H' ⟨one, found, o, rfl, rfl, g0, g1⟩
    exact ⟨_, rfl, sz (by show 1 ≤ 100000; decide), fun p hp => q p _ hp⟩
/-! ### _law_digit -/
def spDig : Sp := fun vs H Q _ => ∃ (tp : Addr) (many : Int), vs = [.ref tp, .int many] ∧ Tp H tp ∧ 0 < many ∧ many ≤ 100000000000000000000000000000000000000000000000000000000000 ∧ ∀ r H', 0 ≤ r → r < many → But1 tp H H' → Tp H' tp → Q (.int r) H'
theorem log_many {m : Int} (h0 : 0 < m) (h1 : m ≤ 100000000000000000000000000000000000000000000000000000000000) : m.natAbs.log2 < 9000 := by
  refine PySem.Flt.log2_lt_of (by decide) (Nat.lt_of_le_of_lt (m := 100000000000000000000000000000000000000000000000000000000000) (by omega) ?_)
  exact Nat.lt_of_lt_of_le (m := 2 ^ 200) (by decide) (Nat.pow_le_pow_right (by decide) (by decide))
abbrev s_law_digit : Stmt := top 22
theorem scLdigit : FnScope ["tape", "many", "found"] ["tape", "many"] (defScope s_law_digit) := ⟨rfl, rfl, rfl, by decide +kernel, rfl, by decide +kernel, by decide +kernel⟩
theorem ok_dig {f : Addr} {fd : FuncData} (F : Fun K "_law_digit" "_law_digit" s_law_digit f fd) : FnOk P w K mg base CX0 1 f fd ["tape", "many"] spDig := by
  refine F.ok scLdigit (fun vs H Q E h => ?_) (fun cdv A outer s H vs Q E hr h => ?_)
  · obtain ⟨tp, many, rfl, _⟩ := h
    rfl
  obtain ⟨tp, many, rfl, ⟨z, hz⟩, h0, h1, q⟩ := h
  refine ⟨_, (pss_cons (ps_set (i := 2) scLdigit.nd rfl (Or.inl rfl) (pe_op op_mod (pe_ix ix_list (pv 0) pe_int (fun _ _ => rfl)) (pv 1)))
    (pss_cons (ps_asg (pe_op op_fdivW (pe_ix ix_list (pv 0) pe_int (fun _ _ => rfl)) (pv 1)) (pg_sub (pv 0) pe_int set_list))
    (pss_one (ps_ret (pv 2))))), ?_⟩
  refine ⟨_, rfl, tp, _, _, _, rfl, rfl, SqL.of hz, at0, _, rfl, _, _, rfl, rfl, h0, ?_⟩
  refine ⟨_, rfl, tp, _, _, _, rfl, rfl, SqL.of hz, at0, _, rfl, _, _, rfl, rfl, ⟨h0, log_many h0 h1⟩, ?_⟩
  refine ⟨_, rfl, tp, _, _, 0, rfl, rfl, hz, rfl, ?_⟩
  refine ⟨_, rfl, q _ _ (Int.emod_nonneg _ (by omega)) (Int.emod_lt_of_pos _ h0) (fun b o n h => ?_) ⟨_, upd_same⟩⟩
  rw [upd_ne n]
  exact h
/-! ### _law_number -/
def spNum : Sp := fun vs H Q _ => ∃ (tp : Addr), vs = [.ref tp] ∧ Tp H tp ∧ ∀ r H', But1 tp H H' → Tp H' tp → 0 ≤ r → r < 1000 → Q (.int r) H'
abbrev s_law_number : Stmt := top 24
theorem scLnumber : FnScope ["tape", "way"] ["tape"] (defScope s_law_number) := ⟨rfl, rfl, rfl, by decide +kernel, rfl, by decide +kernel, by decide +kernel⟩
theorem at_some {xs : List V} {i : Int} (h0 : 0 ≤ i) (h1 : i < (xs.length : Int)) : ∃ v, atI xs i = some v ∧ v ∈ xs := by
  have h : i.toNat < xs.length := by omega
  exact ⟨xs[i.toNat], at_of (j := i.toNat) (by omega) (List.getElem?_eq_getElem h), List.getElem_mem h⟩
theorem ok_num {f g : Addr} {fd gd : FuncData} (F : Fun K "_law_number" "_law_number" s_law_number f fd) (G_law_digit : FnOk P w K mg base CX0 1 g gd ["tape", "many"] spDig) (R_law_digit : Ref K mg "_law_digit" g gd ["tape", "many"]) : FnOk P w K mg base CX0 2 f fd ["tape"] spNum := by
  refine F.ok scLnumber (fun vs H Q E h => ?_) (fun cdv A outer s H vs Q E hr h => ?_)
  · obtain ⟨tp, rfl, _⟩ := h
    rfl
  obtain ⟨tp, rfl, ht, q⟩ := h
  refine ⟨_, (pss_cons (ps_set (i := 1) scLnumber.nd rfl (Or.inl rfl) (pe_call G_law_digit hr rfl R_law_digit.m R_law_digit.k R_law_digit.b .nil pass0 (pa_cons (pv 0) (pa_cons pe_int pa_nil))))
    (pss_cons (ps_if (pt_cmpR op_eq (pv 1) pe_int (nomark _)) (pss_one (ps_ret (pe_call G_law_digit hr rfl R_law_digit.m R_law_digit.k R_law_digit.b .nil pass0 (pa_cons (pv 0) (pa_cons pe_int pa_nil))))) pss_nil)
    (pss_one (ps_ret (pe_ix ix_list (pe_lst (pa_cons pe_int (pa_cons pe_int (pa_cons pe_int (pa_cons pe_int (pa_cons pe_int pa_nil)))))) (pv 1) (fun _ _ => rfl)))))), ?_⟩
  refine ⟨_, rfl, tp, 6, rfl, ht, by decide, by decide, fun r H1 r0 r1 k1 t1 => ?_⟩
  refine ⟨_, rfl, rfl, _, rfl, ?_⟩
  refine ite2 (fun c => ?_) (fun c => ?_)
  · exact ⟨_, rfl, tp, 1000, rfl, t1, by decide, by decide, fun r2 H2 z0 z1 k2 t2 => q r2 H2 (k1.trans k2) t2 z0 z1⟩
  · have c' : r ≠ 5 := fun z => c (decide_eq_true (congrArg V.int z))
    refine ⟨sz (by show 5 ≤ 100000; decide), fun p hp => ?_⟩
    have np : tp ≠ p := by
      obtain ⟨z, hz⟩ := t1
      exact ne_of_none hz hp
    obtain ⟨v, hv, hm⟩ := at_some (xs := [V.int 0, .int 1, .int 1, .int 2, .int 3]) (i := r) r0 (by show r < 5; omega)
    have hi : ∃ n : Int, v = V.int n ∧ 0 ≤ n ∧ n < 1000 := by
      simp only [List.mem_cons, List.not_mem_nil, or_false] at hm
      rcases hm with z | z | z | z | z <;> exact ⟨_, z, by decide, by decide⟩
    obtain ⟨n, rfl, z0, z1⟩ := hi
    refine ⟨_, rfl, p, _, _, _, rfl, rfl, SqL.of upd_same, hv, ?_⟩
    refine q n _ (k1.trans (but_same (same_new hp _))) ?_ z0 z1
    obtain ⟨z, hz⟩ := t1
    exact ⟨z, same_new hp _ _ _ hz⟩
end
end KB

namespace KB
open PySem L2

/-! ### good terms -/
def okH : Hd → Prop
  | .nam x | .lett x | .ask x => isW x = true
  | .num z => 0 ≤ z ∧ z < 1000
  | _ => True
def okT : Tm → Prop
  | .mk h _ k => okH h ∧ ∀ i, okT (k i)
def HtLe : Nat → Tm → Prop
  | 0, _ => False
  | n + 1, .mk _ _ k => ∀ i, HtLe n (k i)
theorem HtLe.up : ∀ {n : Nat} {t : Tm}, HtLe n t → HtLe (n + 1) t
  | 0, _, h => h.elim
  | n + 1, .mk _ _ _, h => fun i => HtLe.up (n := n) (h i)
theorem HtLe.le {n m : Nat} {t : Tm} (h : HtLe n t) (e : n ≤ m) : HtLe m t := by
  induction e with
  | refl => exact h
  | step _ ih => exact ih.up
/-- each name within its word's reach, each ask with as many terms as hd says -/
def okN (hd : Str → Option Nat) : Hd → Nat → List Str → Prop
  | .nam x, _, xs => x ∈ xs
  | .ask f, n, _ => hd f = some n
  | _, _, _ => True
def inn : Hd → Nat → List Str → List Str
  | .lett x, 1, xs => xs ++ [x]
  | _, _, xs => xs
def okS (hd : Str → Option Nat) : Tm → List Str → Prop
  | .mk h n k, xs => okN hd h n xs ∧ ∀ i, okS hd (k i) (inn h i.val xs)
def mkL (h : Hd) (ts : List Tm) : Tm := .mk h ts.length fun i => ts.get i
theorem ofFn_get (ts : List Tm) : List.ofFn (fun i => ts.get i) = ts := by
  refine List.ext_getElem (by simp) fun i h1 h2 => ?_
  simp
theorem cnt_mkL {h : Hd} {ts : List Tm} : cnt (mkL h ts) = 1 + cnts ts := by
  unfold mkL
  rw [cnt_mk, ofFn_get]
theorem ok_mkL {h : Hd} {ts : List Tm} (a : okH h) (b : ∀ t ∈ ts, okT t) : okT (mkL h ts) := ⟨a, fun i => b _ (List.get_mem ts i)⟩
theorem ht_mkL {n : Nat} {h : Hd} {ts : List Tm} (b : ∀ t ∈ ts, HtLe n t) : HtLe (n + 1) (mkL h ts) := fun i => b _ (List.get_mem ts i)
theorem sc_mkL {hd : Str → Option Nat} {h : Hd} {ts : List Tm} {xs : List Str} (a : okN hd h ts.length xs) (b : ∀ i t, ts[i]? = some t → okS hd t (inn h i xs)) : okS hd (mkL h ts) xs :=
  ⟨a, fun i => b i.val _ (by rw [List.getElem?_eq_getElem i.isLt]; rfl)⟩
theorem lt_mkL {h : Hd} {ts : List Tm} : letsOf (mkL h ts) = hdLets h ++ letsL ts := by
  unfold mkL
  rw [lets_mk, ofFn_get]
theorem letsL_app (a b : List Tm) : letsL (a ++ b) = letsL a ++ letsL b := by
  unfold letsL
  rw [List.map_append, List.flatten_append]
theorem letsL_cons (t : Tm) (r : List Tm) : letsL (t :: r) = letsOf t ++ letsL r := by
  unfold letsL
  rw [List.map_cons, List.flatten_cons]
theorem stk_fn {H : Hp} : ∀ {vs : List V} {ts : List Tm}, Stk H vs ts → ∃ ys : _root_.Fin ts.length → Addr, Rfs ys = vs ∧ ∀ i, At H (ts.get i) (ys i)
  | [], [], _ => ⟨fun i => i.elim0, rfl, fun i => i.elim0⟩
  | v :: vs, t :: ts, h => by
    obtain ⟨⟨b, e, hb⟩, hr⟩ := h
    subst e
    obtain ⟨ys, e1, e2⟩ := stk_fn hr
    refine ⟨fun i => match i with | ⟨0, _⟩ => b | ⟨j + 1, hj⟩ => ys ⟨j, Nat.lt_of_succ_lt_succ hj⟩, ?_, ?_⟩
    · unfold Rfs
      show List.ofFn (n := ts.length + 1) _ = _
      rw [List.ofFn_succ, ← e1]
      rfl
    · rintro ⟨j, hj⟩
      cases j with
      | zero => exact hb
      | succ j => exact e2 ⟨j, Nat.lt_of_succ_lt_succ hj⟩
  | [], _ :: _, h => h.elim
  | _ :: _, [], h => h.elim
theorem at_mkL {H : Hp} {a : Addr} {h : Hd} {vs : List V} {ts : List Tm} (l : Lay H a h vs) (s : Stk H vs ts) : At H (mkL h ts) a := by
  obtain ⟨ys, e1, e2⟩ := stk_fn s
  refine ⟨ys, ?_, e2⟩
  rw [e1]
  exact l
/-- a new good term at a, of at most n terms, within at most d -/
structure Gd (H : Hp) (a : Addr) (n d : Nat) (hd : Str → Option Nat) (xs ls : List Str) (t : Tm) : Prop where
  at_ : At H t a
  ok : okT t
  cn : cnt t ≤ n
  dp : HtLe d t
  sc : okS hd t xs
  lt : letsOf t = ls
theorem Gd.tk {H H' : Hp} {a : Addr} {n d : Nat} {hd : Str → Option Nat} {xs ls : List Str} {t : Tm} (e : TK H H') (g : Gd H a n d hd xs ls t) : Gd H' a n d hd xs ls t := ⟨g.at_.tk e, g.ok, g.cn, g.dp, g.sc, g.lt⟩
theorem Gd.le {H : Hp} {a : Addr} {n d m e : Nat} {hd : Str → Option Nat} {xs ls : List Str} {t : Tm} (g : Gd H a n d hd xs ls t) (h1 : n ≤ m) (h2 : d ≤ e) : Gd H a m e hd xs ls t := ⟨g.at_, g.ok, Nat.le_trans g.cn h1, g.dp.le h2, g.sc, g.lt⟩
theorem gd_num {H : Hp} {a : Addr} {z : Int} {hd : Str → Option Nat} {xs : List Str} (l : Lay H a (.num z) []) (o : 0 ≤ z ∧ z < 1000) : Gd H a 1 1 hd xs [] (mkL (.num z) []) :=
  ⟨at_mkL l trivial, ok_mkL o (fun _ z => nomatch z), (by rw [cnt_mkL]; exact Nat.le_refl 1), ht_mkL (n := 0) (fun _ z => nomatch z), sc_mkL trivial (fun _ _ z => by simp at z), lt_mkL⟩
theorem gd_nam {H : Hp} {a : Addr} {x : Str} {hd : Str → Option Nat} {xs : List Str} (l : Lay H a (.nam x) []) (o : isW x = true) (m : x ∈ xs) : Gd H a 1 1 hd xs [] (mkL (.nam x) []) :=
  ⟨at_mkL l trivial, ok_mkL o (fun _ z => nomatch z), (by rw [cnt_mkL]; exact Nat.le_refl 1), ht_mkL (n := 0) (fun _ z => nomatch z), sc_mkL m (fun _ _ z => by simp at z), lt_mkL⟩

section
variable {P : Program} {w : World} {K : PySem.W.Frag} {mg : Str → Option Value} {base : Heap}
/-! ### _law_leaf -/
def spLeaf : Sp := fun vs H Q _ => ∃ (tp : Addr) (kv : V) (ar : Addr) (xs : List Str), vs = [.ref tp, kv, .ref ar] ∧ Tp H tp ∧ Wls H ar xs ∧ xs.length ≤ 1000 ∧ ∀ a t H', But1 tp H H' → Tp H' tp → (∀ hd, Gd H' a 1 1 hd xs [] t) → Q (.ref a) H'
abbrev s_law_leaf : Stmt := top 25
theorem scLleaf : FnScope ["tape", "known", "around"] ["tape", "known", "around"] (defScope s_law_leaf) := ⟨rfl, rfl, rfl, by decide +kernel, rfl, by decide +kernel, by decide +kernel⟩
theorem Tp.same {H H' : Hp} {tp : Addr} (e : Same H H') (t : Tp H tp) : Tp H' tp := let ⟨z, h⟩ := t; ⟨z, e _ _ h⟩
theorem ok_leaf (T : Txt K mg) {f g h : Addr} {fd gd hd : FuncData} (F : Fun K "_law_leaf" "_law_leaf" s_law_leaf f fd) (G_law_digit : FnOk P w K mg base CX0 1 g gd ["tape", "many"] spDig) (R_law_digit : Ref K mg "_law_digit" g gd ["tape", "many"])
    (G_law_number : FnOk P w K mg base CX0 2 h hd ["tape"] spNum) (R_law_number : Ref K mg "_law_number" h hd ["tape"]) : FnOk P w K mg base CX0 3 f fd ["tape", "known", "around"] spLeaf := by
  refine F.ok scLleaf (fun vs H Q E h => ?_) (fun cdv A outer s H vs Q E hr h => ?_)
  · obtain ⟨tp, kv, ar, xs, rfl, _⟩ := h
    rfl
  obtain ⟨tp, kv, ar, xs, rfl, ht, hw, hl, q⟩ := h
  refine ⟨_, (pss_cons (ps_if (PW.pt (pw_and (pt_cmpR (op_neD hr.units) (pv 2) (pe_lst pa_nil) (nomark _)) (pw_and1 (pt_cmpR op_gt (pe_call G_law_digit (hr.mono (by omega)) rfl R_law_digit.m R_law_digit.k R_law_digit.b .nil pass0 (pa_cons (pv 0) (pa_cons pe_int pa_nil))) pe_int (nomark _))))) (pss_one (ps_ret (pe_tup (pa_cons pe_str (pa_cons (pe_ix ix_list (pv 2) (pe_call G_law_digit (hr.mono (by omega)) rfl R_law_digit.m R_law_digit.k R_law_digit.b .nil pass0 (pa_cons (pv 0) (pa_cons (pe_callB call_len_seq (by rfl) T.m_len PySem.boot_len (pa_cons (pv 2) pa_nil)) pa_nil))) (fun _ _ => rfl)) pa_nil))))) pss_nil)
    (pss_one (ps_ret (pe_tup (pa_cons pe_str (pa_cons (pe_call G_law_number hr rfl R_law_number.m R_law_number.k R_law_number.b .nil pass0 (pa_cons (pv 0) pa_nil)) pa_nil)))))), ?_⟩
  have numW : ∀ H1, But1 tp H H1 → Tp H1 tp → (tRet (tTup (tCons (tC (.str "number")) (tCons (tCall spNum [] E0 (tCons (tVar 0) tNil)) tNil)))) { nx := fun x H' => Q V.non H', rt := Q } [some (.ref tp), some kv, some (.ref ar)] H1 := by
    intro H1 k1 t1
    refine ⟨_, rfl, tp, rfl, t1, fun r H2 k2 t2 r0 r1 => ⟨sz (by show 2 ≤ 100000; decide), fun p hp => ?_⟩⟩
    have s := same_new hp (.tup [.str "number", .int r])
    exact q p (mkL (.num r) []) _ ((k1.trans k2).trans (but_same s)) (t2.same s) (fun _ => gd_num ⟨rfl, upd_same⟩ ⟨r0, r1⟩)
  refine ⟨_, rfl, sz (by show 0 ≤ 100000; decide), fun p0 hp0 => ?_⟩
  have s0 := same_new hp0 (.lst [])
  refine ⟨.list (xs.map PyData.str), .list [], .lst (SqL.of (s0 _ _ hw.1)) (dp_strs xs), .lst (SqL.of upd_same) .nil, shaped_strs hw.2, rfl, _, rfl, ?_⟩
  rw [eqv_nil]
  cases xs with
  | nil => exact iteF (numW _ (but_same s0) (ht.same s0))
  | cons x0 xr =>
    refine iteT ⟨_, rfl, tp, 3, rfl, ht.same s0, by decide, by decide, fun r H1 r0 r1 k1 t1 => ?_⟩
    have k01 := (but_same s0).trans k1
    refine ⟨_, _, rfl, rfl, _, rfl, ?_⟩
    refine ite2 (fun c => ?_) (fun c => ?_)
    · have w1 := hw.but k01 ht
      refine ⟨_, rfl, _, rfl, _, rfl, ar, _, rfl, .inl (SqL.of w1.1), tp, _, rfl, t1, ?_, ?_, fun r2 H2 r3 r4 k2 t2 => ?_⟩
      · show (0 : Int) < (((x0 :: xr).map V.str).length : Nat)
        rw [List.length_map, List.length_cons]
        omega
      · rw [List.length_map]
        omega
      have w2 := w1.but k2 t1
      obtain ⟨v, hv, hm⟩ := at_some r3 r4
      obtain ⟨z, hz, rfl⟩ := List.mem_map.mp hm
      refine ⟨ar, _, _, _, rfl, rfl, SqL.of w2.1, hv, sz (by show 2 ≤ 100000; decide), fun p hp => ?_⟩
      have s := same_new hp (.tup [.str "name", .str z])
      exact q p (mkL (.nam z) []) _ ((k01.trans k2).trans (but_same s)) (t2.same s) (fun _ => gd_nam ⟨rfl, upd_same⟩ (hw.2 z hz) hz)
    · exact numW _ k01 t1
/-! ### _law_shares -/
def spShr : Sp := fun vs H Q _ => ∃ (tp : Addr) (room many : Int), vs = [.ref tp, .int room, .int many] ∧ Tp H tp ∧ 0 ≤ many ∧ many ≤ room ∧ room ≤ 1000 ∧
  ∀ (p : Addr) (xs : List Int) (H' : Hp), But1 tp H H' → Tp H' tp → H p = none → H' p = some (.lst (xs.map V.int)) → (xs.length : Int) = many → (∀ x ∈ xs, (1 : Int) ≤ x) → xs.sum ≤ room → Q (.ref p) H'
abbrev s_law_shares : Stmt := top 26
theorem scLshares : FnScope ["tape", "room", "many", "found", "left", "k", "more"] ["tape", "room", "many"] (defScope s_law_shares) := ⟨rfl, rfl, rfl, by decide +kernel, rfl, by decide +kernel, by decide +kernel⟩
theorem rep1 (n : Nat) : (List.replicate n [V.int 1]).flatten = (List.replicate n (1 : Int)).map V.int := by
  induction n with
  | zero => rfl
  | succ n ih =>
    rw [List.replicate_succ, List.flatten_cons, ih, List.replicate_succ]
    rfl
theorem sum1 (n : Nat) : (List.replicate n (1 : Int)).sum = n := by
  induction n with
  | zero => rfl
  | succ n ih =>
    rw [List.replicate_succ, List.sum_cons, ih]
    omega
theorem ok_shares (T : Txt K mg) {f g : Addr} {fd gd : FuncData} (F : Fun K "_law_shares" "_law_shares" s_law_shares f fd) (G_law_digit : FnOk P w K mg base CX0 1 g gd ["tape", "many"] spDig) (R_law_digit : Ref K mg "_law_digit" g gd ["tape", "many"]) : FnOk P w K mg base CX0 2 f fd ["tape", "room", "many"] spShr := by
  refine F.ok scLshares (fun vs H Q E h => ?_) (fun cdv A outer s H vs Q E hr h => ?_)
  · obtain ⟨tp, room, many, rfl, _⟩ := h
    rfl
  obtain ⟨tp, room, many, rfl, ht, h0, h1, h2, q⟩ := h
  refine ⟨_, (pss_cons (ps_set (i := 3) scLshares.nd rfl (Or.inl rfl) (pe_op op_rep (pe_lst (pa_cons pe_int pa_nil)) (pv 2)))
    (pss_cons (ps_set (i := 4) scLshares.nd rfl (Or.inl rfl) (pe_op op_sub (pv 1) (pv 2)))
    (pss_cons (ps_for PassesOwn.never rfl (pi_range1 rfl T.m_range (pa_cons (pv 2) pa_nil)) (pg_name (i := 5) scLshares.nd rfl (Or.inl rfl)) (pss_cons (ps_set (i := 6) scLshares.nd rfl (Or.inl rfl) (pe_call G_law_digit hr rfl R_law_digit.m R_law_digit.k R_law_digit.b .nil pass0 (pa_cons (pv 0) (pa_cons (pe_op op_add (pv 4) pe_int) pa_nil))))
    (pss_cons (ps_asg (pe_op op_add (pe_ix ix_list (pv 3) (pv 5) (fun _ _ => rfl)) (pv 6)) (pg_sub (pv 3) (pv 5) set_list))
    (pss_one (ps_set (i := 4) scLshares.nd rfl (Or.inl rfl) (pe_op op_sub (pv 4) (pv 6)))))))
    (pss_one (ps_ret (pv 3)))))), ?_⟩
  refine ⟨sz (by show 1 ≤ 100000; decide), fun p1 hp1 => ?_⟩
  have s1 := same_new hp1 (.lst [.int 1])
  refine ⟨_, rfl, p1, _, _, rfl, rfl, upd_same, by omega, by omega, sz (by show 1 * many.toNat ≤ 100000; omega), fun fl hfl => ?_⟩
  have s2 := same_new hfl (.lst (List.replicate many.toNat [V.int 1]).flatten)
  have s12 := s1.trans s2
  have hfl0 : H fl = none := s1.free hfl
  have f1 : upd (upd H p1 (.lst [.int 1])) fl (.lst (List.replicate many.toNat [V.int 1]).flatten) fl = some (.lst ((List.replicate many.toNat (1 : Int)).map V.int)) := by
    rw [upd_same, rep1]
  refine ⟨_, rfl, _, rfl, _, _, rfl, rfl, ?_⟩
  refine ⟨_, rfl, many, rfl, by omega, by omega, ?_⟩
  have ntp : fl ≠ tp := by
    obtain ⟨z, hz⟩ := ht
    exact (ne_of_none hz hfl0).symm
  refine for_range (lo := 0) (n := many.toNat) (fun i σ H' => ∃ left o5 o6 xs, σ = [some (.ref tp), some (.int room), some (.int many), some (.ref fl), some (.int left), o5, o6] ∧ But1 tp H H' ∧ Tp H' tp ∧ H' fl = some (.lst ((xs : List Int).map V.int)) ∧
    (xs.length : Int) = many ∧ (∀ x ∈ xs, (1 : Int) ≤ x) ∧ xs.sum + left = room ∧ 0 ≤ left) ?_ ?_ ?_
  · refine ⟨_, _, _, List.replicate many.toNat 1, rfl, but_same s12, ht.same s12, f1, ?_, ?_, ?_, by omega⟩
    · rw [List.length_replicate]
      omega
    · intro x hx
      rw [(List.mem_replicate.mp hx).2]
      decide
    · rw [sum1]
      omega
  · rintro i σ H1 hi ⟨left, o5, o6, xs, rfl, k1, t1, g1, g2, g3, g4, g5⟩
    refine ⟨_, rfl, _, rfl, _, _, rfl, rfl, tp, _, rfl, t1, by omega, ?_, fun r H2 r0 r1 k2 t2 => ?_⟩
    · have : xs.sum ≥ 0 := by
        clear g1 g2 g4
        induction xs with
        | nil => decide
        | cons x r ih =>
          have e1 := g3 x List.mem_cons_self
          have e2 := ih fun y hy => g3 y (List.mem_cons_of_mem _ hy)
          rw [List.sum_cons]
          omega
      omega
    have g6 := k2 _ _ ntp g1
    have hi2 : i < xs.length := by omega
    have hx : xs[i]? = some xs[i] := List.getElem?_eq_getElem hi2
    have e0 : (0 : Int) + (i : Nat) = ((i : Nat) : Int) := by omega
    refine ⟨_, rfl, _, rfl, fl, _, _, .int xs[i], rfl, rfl, SqL.of g6, ?_, _, rfl, _, _, rfl, rfl, ?_⟩
    · rw [e0]
      exact atI_nat (by rw [List.getElem?_map, hx]; rfl)
    refine ⟨_, rfl, _, rfl, fl, _, _, i, rfl, rfl, g6, ?_, ?_⟩
    · rw [e0, List.length_map]
      unfold ixN
      rw [if_pos (by omega), if_pos (by omega)]
      rfl
    refine ⟨_, rfl, _, rfl, _, _, rfl, rfl, ?_⟩
    refine ⟨_, _, _, xs.set i (xs[i] + r), rfl, fun b o n h => ?_, ?_, ?_, ?_, ?_, ?_, by omega⟩
    · by_cases e : b = fl
      · subst e
        rw [hfl0] at h
        cases h
      · rw [upd_ne e]
        exact k2 _ _ n (k1 _ _ n h)
    · obtain ⟨z, hz⟩ := t2
      exact ⟨z, by rw [upd_ne (Ne.symm ntp)]; exact hz⟩
    · rw [upd_same, List.map_set]
    · rw [List.length_set]
      exact g2
    · intro x hx'
      rcases List.mem_or_eq_of_mem_set hx' with z | z
      · exact g3 x z
      · have := g3 _ (List.getElem_mem hi2)
        omega
    · rw [sum_set hx]
      omega
  · rintro σ H1 ⟨left, o5, o6, xs, rfl, k1, t1, g1, g2, g3, g4, g5⟩
    exact ⟨_, rfl, q fl xs H1 k1 t1 hfl0 g1 g2 g3 (by omega)⟩
/-! ### _law_less_one -/
theorem simple_mkL {h : Hd} {ts : List Tm} (a : flatHd h = true) (b : ∀ t ∈ ts, simple t = true) : simple (mkL h ts) = true := by
  unfold mkL simple
  rw [a, Bool.true_and, List.all_eq_true]
  intro x hx
  obtain ⟨i, rfl⟩ := List.mem_ofFn.mp hx
  exact b _ (List.get_mem ts i)
def spLess : Sp := fun vs H Q _ => ∃ (ar : Addr) (xs : List Str), vs = [.ref ar] ∧ Wls H ar xs ∧ ∀ a t H', Same H H' → (∀ hd, Gd H' a 3 2 hd xs [] t) → simple t = true → Q (.ref a) H'
abbrev s_law_less_one : Stmt := top 27
theorem scLless_one : FnScope ["around"] ["around"] (defScope s_law_less_one) := ⟨rfl, rfl, rfl, by decide +kernel, rfl, by decide +kernel, by decide +kernel⟩
theorem ok_less {f : Addr} {fd : FuncData} (F : Fun K "_law_less_one" "_law_less_one" s_law_less_one f fd) : FnOk P w K mg base CX0 1 f fd ["around"] spLess := by
  refine F.ok scLless_one (fun vs H Q E h => ?_) (fun cdv A outer s H vs Q E hr h => ?_)
  · obtain ⟨ar, xs, rfl, _⟩ := h
    rfl
  obtain ⟨ar, xs, rfl, hw, q⟩ := h
  refine ⟨_, (pss_cons (ps_if (pt_cmpR (op_eqD hr.units) (pv 0) (pe_lst pa_nil) (nomark _)) (pss_one (ps_ret (pe_tup (pa_cons pe_str (pa_cons pe_int pa_nil))))) pss_nil)
    (pss_one (ps_ret (pe_tup (pa_cons pe_str (pa_cons (pe_tup (pa_cons pe_str (pa_cons (pe_ix ix_list (pv 0) pe_int (fun _ _ => rfl)) pa_nil))) (pa_cons (pe_tup (pa_cons pe_str (pa_cons pe_int pa_nil))) pa_nil))))))), ?_⟩
  refine ⟨_, rfl, sz (by show 0 ≤ 100000; decide), fun p0 hp0 => ?_⟩
  have s0 := same_new hp0 (.lst [])
  refine ⟨.list (xs.map PyData.str), .list [], .lst (SqL.of (s0 _ _ hw.1)) (dp_strs xs), .lst (SqL.of upd_same) .nil, shaped_strs hw.2, rfl, _, rfl, ?_⟩
  rw [eqv_nil]
  cases xs with
  | nil =>
    refine iteT ⟨sz (by show 2 ≤ 100000; decide), fun p hp => ?_⟩
    exact q p (mkL (.num 0) []) _ (s0.trans (same_new hp _)) (fun _ => (gd_num ⟨rfl, upd_same⟩ (by decide)).le (by decide) (by decide)) (simple_mkL rfl (fun _ z => nomatch z))
  | cons x0 xr =>
    refine iteF ⟨_, rfl, ar, _, _, _, rfl, rfl, SqL.of (s0 _ _ hw.1), at0, sz (by show 2 ≤ 100000; decide), fun p1 hp1 => ?_⟩
    have s1 := same_new hp1 (.tup [.str "name", .str x0])
    refine ⟨sz (by show 2 ≤ 100000; decide), fun p2 hp2 => ?_⟩
    have s2 := same_new hp2 (.tup [.str "number", .int 1])
    refine ⟨sz (by show 3 ≤ 100000; decide), fun p3 hp3 => ?_⟩
    have s3 := same_new hp3 (.tup [.str "less", .ref p1, .ref p2])
    have s23 := s2.trans s3
    have l1 : Lay _ p1 (.nam x0) [] := ⟨rfl, s23 _ _ upd_same⟩
    have l2 : Lay _ p2 (.num 1) [] := ⟨rfl, s3 _ _ upd_same⟩
    refine q p3 (mkL .less [mkL (.nam x0) [], mkL (.num 1) []]) _ (s0.trans (s1.trans s23)) (fun hd => ?_) (simple_mkL rfl fun t ht => by
      simp only [List.mem_cons, List.not_mem_nil, or_false] at ht
      rcases ht with z | z <;> subst z <;> exact simple_mkL rfl (fun _ z => nomatch z))
    have g1 := gd_nam (hd := hd) (xs := x0 :: xr) l1 (hw.2 x0 List.mem_cons_self) List.mem_cons_self
    have g2 := gd_num (hd := hd) (xs := x0 :: xr) l2 (by decide)
    refine ⟨?_, ?_, ?_, ?_, ?_, ?_⟩
    · exact at_mkL (vs := [.ref p1, .ref p2]) ⟨rfl, upd_same⟩ ⟨⟨p1, rfl, g1.at_⟩, ⟨p2, rfl, g2.at_⟩, trivial⟩
    · refine ok_mkL trivial fun t ht => ?_
      simp only [List.mem_cons, List.not_mem_nil, or_false] at ht
      rcases ht with z | z
      · subst z
        exact g1.ok
      · subst z
        exact g2.ok
    · have c1 := g1.cn
      have c2 := g2.cn
      rw [cnt_mkL, cnts_cons, cnts_cons]
      show 1 + (_ + (_ + 0)) ≤ 3
      omega
    · refine ht_mkL fun t ht => ?_
      simp only [List.mem_cons, List.not_mem_nil, or_false] at ht
      rcases ht with z | z
      · subst z
        exact g1.dp
      · subst z
        exact g2.dp
    · refine sc_mkL trivial fun i t hi => ?_
      match i, hi with
      | 0, hi =>
        cases (Option.some.inj hi)
        exact g1.sc
      | 1, hi =>
        cases (Option.some.inj hi)
        exact g2.sc
      | i + 2, hi => simp at hi
    · rw [lt_mkL, letsL_cons, letsL_cons, g1.lt, g2.lt]
      rfl
end
end KB

namespace KB
open PySem L2

/-! ### what a generator of terms has at hand -/
def But2 (tp wl : Addr) (H H' : Hp) : Prop := ∀ b o, b ≠ tp → b ≠ wl → H b = some o → H' b = some o
theorem But2.refl (tp wl : Addr) (H : Hp) : But2 tp wl H H := fun _ _ _ _ h => h
theorem But2.trans {tp wl : Addr} {H H1 H2 : Hp} (a : But2 tp wl H H1) (b : But2 tp wl H1 H2) : But2 tp wl H H2 := fun x o n m h => b x o n m (a x o n m h)
theorem But1.two {tp wl : Addr} {H H' : Hp} (a : But1 tp H H') : But2 tp wl H H' := fun x o n _ h => a x o n h
theorem but2_same {tp wl : Addr} {H H' : Hp} (e : Same H H') : But2 tp wl H H' := fun b o _ _ h => e b o h
def kwE : Key := Sum.inr "errands"
def kwH : Key := Sum.inr "heads"
def kwW : Key := Sum.inr "words"
def knD (el hd wl : Addr) : List (Key × V) := [(Sum.inr "errands", .ref el), (Sum.inr "heads", .ref hd), (Sum.inr "words", .ref wl)]
structure GS (H : Hp) (tp kd wl : Addr) (hF : Str → Option Nat) (ws : List Str) : Prop where
  t : Tp H tp
  w : Wls H wl ws
  wn : ws.length ≤ 100
  k : ∃ el hd fs kvs, H kd = some (.dK (knD el hd wl)) ∧ el ≠ wl ∧ Wls H el fs ∧ 0 < fs.length ∧ fs.length ≤ 100 ∧ H hd = some (.dK kvs) ∧ ∀ f ∈ fs, ∃ n : Int, valV kvs (Sum.inr f) = some (.int n) ∧ 0 ≤ n ∧ n ≤ 4 ∧ hF f = some n.toNat
theorem GS.ntk {H : Hp} {tp kd wl : Addr} {hF : Str → Option Nat} {ws : List Str} (g : GS H tp kd wl hF ws) {a : Addr} {o : HO} (h : H a = some o) (hn : ∀ xs, o ≠ .lst xs) : a ≠ tp ∧ a ≠ wl := by
  obtain ⟨z, hz⟩ := g.t
  exact ⟨ne_of h hz (hn _), ne_of h g.w.1 (hn _)⟩
theorem GS.tk {H H' : Hp} {tp kd wl : Addr} {hF : Str → Option Nat} {ws : List Str} (g : GS H tp kd wl hF ws) (b : But2 tp wl H H') : TK H H' := fun a _ h => by
  obtain ⟨n1, n2⟩ := g.ntk h (fun _ z => nomatch z)
  exact b a _ n1 n2 h
theorem GS.step {H H' : Hp} {tp kd wl : Addr} {hF : Str → Option Nat} {ws ws' : List Str} (g : GS H tp kd wl hF ws) (b : But2 tp wl H H') (t : Tp H' tp) (w : Wls H' wl ws') (wn : ws'.length ≤ 100) : GS H' tp kd wl hF ws' := by
  obtain ⟨el, hd, fs, kvs, k1, k2, k3, k4, k5, k6, k7⟩ := g.k
  refine ⟨t, w, wn, el, hd, fs, kvs, ?_, k2, ⟨b _ _ (wls_tp k3.1 g.t) k2 k3.1, k3.2⟩, k4, k5, ?_, k7⟩
  · obtain ⟨n1, n2⟩ := g.ntk k1 (fun _ z => nomatch z)
    exact b _ _ n1 n2 k1
  · obtain ⟨n1, n2⟩ := g.ntk k6 (fun _ z => nomatch z)
    exact b _ _ n1 n2 k6
theorem GS.one {H H' : Hp} {tp kd wl : Addr} {hF : Str → Option Nat} {ws : List Str} (g : GS H tp kd wl hF ws) (b : But1 tp H H') (t : Tp H' tp) : GS H' tp kd wl hF ws :=
  g.step b.two t (g.w.but b g.t) g.wn
theorem GS.same {H H' : Hp} {tp kd wl : Addr} {hF : Str → Option Nat} {ws : List Str} (g : GS H tp kd wl hF ws) (e : Same H H') : GS H' tp kd wl hF ws := g.one (but_same e) (g.t.same e)
theorem Wls.two {tp kd wl a : Addr} {H H' : Hp} {xs : List Str} {hF : Str → Option Nat} {ws : List Str} (e : But2 tp wl H H') (g : GS H tp kd wl hF ws) (n : a ≠ wl) (h : Wls H a xs) : Wls H' a xs := ⟨e _ _ (wls_tp h.1 g.t) n h.1, h.2⟩
/-- an object that was new stays -/
theorem GS.new {tp kd wl : Addr} {H : Hp} {hF : Str → Option Nat} {ws : List Str} (g : GS H tp kd wl hF ws) {p : Addr} (h : H p = none) : p ≠ tp ∧ p ≠ wl := by
  obtain ⟨z, hz⟩ := g.t
  exact ⟨(ne_of_none hz h).symm, (ne_of_none g.w.1 h).symm⟩
theorem But2.put {tp wl : Addr} {H H' : Hp} {p : Addr} {o : HO} (e : But2 tp wl H H') (h : H p = none) : But2 tp wl H (upd H' p o) := fun a u n m ha => by
  rw [upd_ne (ne_of_none ha h)]
  exact e _ _ n m ha
theorem GS.put {tp kd wl : Addr} {H : Hp} {hF : Str → Option Nat} {ws : List Str} (g : GS H tp kd wl hF ws) {p : Addr} {o o' : HO} (h : H p = some o) (n1 : p ≠ tp) (n2 : p ≠ wl) (n3 : p ≠ kd) (n4 : ∀ kvs, o ≠ .dK kvs) (n5 : ∀ x : Str, ∀ xs, o ≠ .lst (.str x :: xs)) : GS (upd H p o') tp kd wl hF ws := by
  obtain ⟨el, hd, fs, kvs, k1, k2, k3, k4, k5, k6, k7⟩ := g.k
  obtain ⟨z, hz⟩ := g.t
  refine ⟨⟨z, by rw [upd_ne n1.symm]; exact hz⟩, ⟨by rw [upd_ne n2.symm]; exact g.w.1, g.w.2⟩, g.wn, el, hd, fs, kvs, by rw [upd_ne n3.symm]; exact k1, k2, ⟨?_, k3.2⟩, k4, k5, ?_, k7⟩
  · have ne : el ≠ p := by
      rintro rfl
      rw [k3.1] at h
      cases fs with
      | nil => exact absurd k4 (Nat.lt_irrefl 0)
      | cons x r => exact n5 x _ (Option.some.inj h).symm
    rw [upd_ne ne]
    exact k3.1
  · have ne : hd ≠ p := by
      rintro rfl
      rw [k6] at h
      exact n4 _ (Option.some.inj h).symm
    rw [upd_ne ne]
    exact k6
theorem get_errands {H : Hp} {kd el hd wl : Addr} (h : H kd = some (.dK (knD el hd wl))) : DGet H kd (.str "errands") (some (.ref el)) := DGet.k (k := kwE) h
theorem get_heads {H : Hp} {kd el hd wl : Addr} (h : H kd = some (.dK (knD el hd wl))) : DGet H kd (.str "heads") (some (.ref hd)) := DGet.k (k := kwH) h
theorem get_words {H : Hp} {kd el hd wl : Addr} (h : H kd = some (.dK (knD el hd wl))) : DGet H kd (.str "words") (some (.ref wl)) := DGet.k (k := kwW) h
theorem get_of {H : Hp} {hd : Addr} {kvs : List (Key × V)} {f : Str} {v : V} (h : H hd = some (.dK kvs)) (e : valV kvs (Sum.inr f) = some v) : DGet H hd (.str f) (some v) := by
  have := DGet.k (k := Sum.inr f) h
  rw [e] at this
  exact this
theorem small64 {x : Int} (h0 : 0 ≤ x) (h1 : x < 1000000) : -(2 ^ 64) < x ∧ x < 2 ^ 64 := by
  have e : (2 : Int) ^ 64 = 18446744073709551616 := by decide
  rw [e]
  omega

theorem ite_share {c : Prop} [Decidable c] {A B P : Prop} (hB : P → B) (hP : ¬ c → P) (hA : c → (P → B) → A) : if c then A else B := by
  by_cases h : c
  · rw [if_pos h]
    exact hA h hB
  · rw [if_neg h]
    exact hB (hP h)

section
variable {P : Program} {w : World} {K : PySem.W.Frag} {mg : Str → Option Value} {base : Heap}
def spTerm (n : Nat) : Sp := fun vs H Q _ => ∃ (tp kd wl ar : Addr) (hF : Str → Option Nat) (ws xs : List Str) (room deep : Int), vs = [.ref tp, .ref kd, .ref ar, .int room, .int deep] ∧ GS H tp kd wl hF ws ∧ Wls H ar xs ∧ ar ≠ wl ∧ (xs.length : Int) + deep ≤ 500 ∧
  1 ≤ room ∧ room ≤ 900 ∧ 0 ≤ deep ∧ deep.toNat < n ∧ ∀ a t ls H' ws', But2 tp wl H H' → ws = ws' ++ List.reverse ls → GS H' tp kd wl hF ws' → Gd H' a room.toNat (deep.toNat + 2) hF xs ls t → Q (.ref a) H'
def spAsk (n : Nat) : Sp := fun vs H Q _ => ∃ (tp kd wl ar : Addr) (hF : Str → Option Nat) (ws xs : List Str) (room deep : Int), vs = [.ref tp, .ref kd, .ref ar, .int room, .int deep] ∧ GS H tp kd wl hF ws ∧ Wls H ar xs ∧ ar ≠ wl ∧ (xs.length : Int) + deep ≤ 500 ∧
  2 ≤ room ∧ room ≤ 900 ∧ 1 ≤ deep ∧ deep.toNat ≤ n ∧ ∀ a t ls H' ws', But2 tp wl H H' → ws = ws' ++ List.reverse ls → GS H' tp kd wl hF ws' → Gd H' a room.toNat (deep.toNat + 2) hF xs ls t → Q (.ref a) H'
abbrev s_law_ask : Stmt := top 28
theorem scLask : FnScope ["tape", "known", "around", "room", "deep", "f", "many", "some", "first", "shares", "k"] ["tape", "known", "around", "room", "deep"] (defScope s_law_ask) := ⟨rfl, rfl, rfl, by decide +kernel, rfl, by decide +kernel, by decide +kernel⟩
theorem le_sum {l : List Int} {x : Int} (h : ∀ y ∈ l, (1 : Int) ≤ y) (hx : x ∈ l) : x ≤ l.sum := by
  induction l with
  | nil => cases hx
  | cons a r ih =>
    have e : (0 : Int) ≤ r.sum := by
      clear ih hx
      induction r with
      | nil => decide
      | cons b s ih2 =>
        have e1 := h b (List.mem_cons_of_mem _ List.mem_cons_self)
        have e2 := ih2 fun y hy => by
          rcases List.mem_cons.mp hy with z | z
          · exact h y (List.mem_cons.mpr (.inl z))
          · exact h y (List.mem_cons_of_mem _ (List.mem_cons_of_mem _ z))
        rw [List.sum_cons]
        omega
    have ha := h a List.mem_cons_self
    rw [List.sum_cons]
    rcases List.mem_cons.mp hx with z | z
    · omega
    · have := ih (fun y hy => h y (List.mem_cons_of_mem _ hy)) z
      omega
/-- within the loop over an ask's terms, i of them made -/
def AskI (H : Hp) (tp kd wl ar sl sh : Addr) (hF : Str → Option Nat) (ws xs : List Str) (ss : List Int) (fn : Str) (room deep many fi : Int) (i : Nat) (σ : St) (H' : Hp) : Prop :=
  ∃ o10 vs ts wsi, σ = [some (.ref tp), some (.ref kd), some (.ref ar), some (.int room), some (.int deep), some (.str fn), some (.int many), some (.ref sl), some (.int fi), some (.ref sh), o10] ∧
  But2 tp wl H H' ∧ GS H' tp kd wl hF wsi ∧ ws = wsi ++ (letsL ts).reverse ∧ Wls H' ar xs ∧ H' sh = some (.lst (ss.map V.int)) ∧ H' sl = some (.lst vs) ∧ Stk H' vs ts ∧ ts.length = i ∧ (∀ t ∈ ts, okT t ∧ HtLe (deep.toNat + 1) t ∧ okS hF t xs) ∧ (cnts ts : Int) ≤ (ss.take i).sum + (if fi > 0 then 2 else 0)
theorem ok_ask (T : Txt K mg) {n : Nat} {f fg fh fs_ fl_ ft : Addr} {fd gd hd sd ld td : FuncData} (F : Fun K "_law_ask" "_law_ask" s_law_ask f fd) (G_law_digit : FnOk P w K mg base CX0 1 fg gd ["tape", "many"] spDig) (R_law_digit : Ref K mg "_law_digit" fg gd ["tape", "many"])
    (G_law_leaf : FnOk P w K mg base CX0 3 fh hd ["tape", "known", "around"] spLeaf) (R_law_leaf : Ref K mg "_law_leaf" fh hd ["tape", "known", "around"]) (G_law_shares : FnOk P w K mg base CX0 2 fs_ sd ["tape", "room", "many"] spShr) (R_law_shares : Ref K mg "_law_shares" fs_ sd ["tape", "room", "many"])
    (G_law_less_one : FnOk P w K mg base CX0 1 fl_ ld ["around"] spLess) (R_law_less_one : Ref K mg "_law_less_one" fl_ ld ["around"])
    (G_law_term : FnOk P w K mg base CX0 (2 * n + 4) ft td ["tape", "known", "around", "room", "deep"] (spTerm n)) (R_law_term : Ref K mg "_law_term" ft td ["tape", "known", "around", "room", "deep"]) : FnOk P w K mg base CX0 (2 * n + 5) f fd ["tape", "known", "around", "room", "deep"] (spAsk n) := by
  refine F.ok scLask (fun vs H Q E h => ?_) (fun cdv A outer s H vs Q E hr h => ?_)
  · obtain ⟨tp, kd, wl, ar, hF, ws, xs, room, deep, rfl, _⟩ := h
    rfl
  obtain ⟨tp, kd, wl, ar, hF, ws, xs, room, deep, rfl, hg, hw, naw, hx, hr1, hr2, hd1, hd2, q⟩ := h
  refine ⟨_, (pss_cons (ps_set (i := 5) scLask.nd rfl (Or.inl rfl) (pe_ix ix_list (pe_dget (hu_of hr) (pv 1) pe_str (fun _ _ => rfl)) (pe_call G_law_digit (hr.mono (by omega)) rfl R_law_digit.m R_law_digit.k R_law_digit.b .nil pass0 (pa_cons (pv 0) (pa_cons (pe_callB call_len_seq (by rfl) T.m_len PySem.boot_len (pa_cons (pe_dget (hu_of hr) (pv 1) pe_str (fun _ _ => rfl)) pa_nil)) pa_nil))) (fun _ _ => rfl)))
    (pss_cons (ps_set (i := 6) scLask.nd rfl (Or.inl rfl) (pe_dget (hu_of hr) (pe_dget (hu_of hr) (pv 1) pe_str (fun _ _ => rfl)) (pv 5) (fun _ _ => rfl)))
    (pss_cons (ps_if (PW.pt (pw_and (pt_cmpR op_gt (pe_op op_add (pv 6) pe_int) (pv 3) (nomark _)) (pw_and1 (pt_cmpR op_gt (pv 6) pe_int (nomark _))))) (pss_one (ps_ret (pe_call G_law_leaf (hr.mono (by omega)) rfl R_law_leaf.m R_law_leaf.k R_law_leaf.b .nil pass0 (pa_cons (pv 0) (pa_cons (pv 1) (pa_cons (pv 2) pa_nil)))))) pss_nil)
    (pss_cons (ps_set (i := 7) scLask.nd rfl (Or.inl rfl) (pe_lst pa_nil))
    (pss_cons (ps_set (i := 8) scLask.nd rfl (Or.inl rfl) (pe_op op_mul (pe_call G_law_digit (hr.mono (by omega)) rfl R_law_digit.m R_law_digit.k R_law_digit.b .nil pass0 (pa_cons (pv 0) (pa_cons pe_int pa_nil))) (pe_callTy call_int1 (by rfl) T.m_int (by decide +kernel) (pa_cons (pe_cmpR op_gt (pv 6) pe_int (nomark _)) pa_nil))))
    (pss_cons (ps_set (i := 9) scLask.nd rfl (Or.inl rfl) (pe_call G_law_shares (hr.mono (by omega)) rfl R_law_shares.m R_law_shares.k R_law_shares.b .nil pass0 (pa_cons (pv 0) (pa_cons (pe_callB (call_max2 rfl) (by rfl) T.m_max (by decide +kernel) (pa_cons (pv 6) (pa_cons (pe_op op_sub (pv 3) (pe_ix ix_list (pe_lst (pa_cons pe_int (pa_cons pe_int pa_nil))) (pe_callTy call_int1 (by rfl) T.m_int (by decide +kernel) (pa_cons (pe_cmpR op_gt (pv 8) pe_int (nomark _)) pa_nil)) (fun _ _ => rfl))) pa_nil))) (pa_cons (pv 6) pa_nil)))))
    (pss_cons (ps_for PassesOwn.never rfl (pi_range1 rfl T.m_range (pa_cons (pv 6) pa_nil)) (pg_name (i := 10) scLask.nd rfl (Or.inl rfl)) (pss_one (ps_if (PW.pt (pw_and (pt_cmpR op_eq (pv 10) pe_int (nomark _)) (pw_and1 (pt_cmpR op_gt (pv 8) pe_int (nomark _))))) (pss_one (ps_expr (pe_bm PySem.F.plainAttrs_list PySem.F.slot_list_append PySem.F.type_list_append mt_append (pv 7) (pa_cons (pe_call G_law_less_one (hr.mono (by omega)) rfl R_law_less_one.m R_law_less_one.k R_law_less_one.b .nil pass0 (pa_cons (pv 2) pa_nil)) pa_nil)))) (pss_one (ps_expr (pe_bm PySem.F.plainAttrs_list PySem.F.slot_list_append PySem.F.type_list_append mt_append (pv 7) (pa_cons (pe_call G_law_term hr rfl R_law_term.m R_law_term.k R_law_term.b .nil pass0 (pa_cons (pv 0) (pa_cons (pv 1) (pa_cons (pv 2) (pa_cons (pe_ix ix_list (pv 9) (pv 10) (fun _ _ => rfl)) (pa_cons (pe_op op_sub (pv 4) pe_int) pa_nil)))))) pa_nil)))))))
    (pss_one (ps_ret (pe_tup (pa_cons pe_str (pa_cons (pv 5) (pa_cons (pe_callTy call_tuple_of (by rfl) T.m_tuple (by decide +kernel) (pa_cons (pv 7) pa_nil)) pa_nil))))))))))))), ?_⟩
  obtain ⟨el, hd', fs, kvs, k1, k2, k3, k4, k5, k6, k7⟩ := hg.k
  refine ⟨_, rfl, kd, _, rfl, get_errands k1, _, rfl, _, rfl, kd, _, rfl, get_errands k1, el, _, rfl, .inl (SqL.of k3.1), tp, _, rfl, hg.t, ?_, ?_, fun r H1 r0 r1 b1 t1 => ?_⟩
  · rw [List.length_map]
    omega
  · rw [List.length_map]
    omega
  have g1 := hg.one b1 t1
  have k3' := k3.but b1 hg.t
  have k1' : H1 kd = some (.dK (knD el hd' wl)) := by
    obtain ⟨n1, _⟩ := hg.ntk k1 (fun _ z => nomatch z)
    exact b1 _ _ n1 k1
  have k6' : H1 hd' = some (.dK kvs) := by
    obtain ⟨n1, _⟩ := hg.ntk k6 (fun _ z => nomatch z)
    exact b1 _ _ n1 k6
  obtain ⟨v, hv, hm⟩ := at_some r0 r1
  obtain ⟨fn, hfn, rfl⟩ := List.mem_map.mp hm
  obtain ⟨many, hmany, m0, m4, mF⟩ := k7 fn hfn
  refine ⟨el, _, _, _, rfl, rfl, SqL.of k3'.1, hv, ?_⟩
  refine ⟨_, rfl, kd, _, rfl, get_heads k1', _, rfl, hd', _, rfl, get_of k6' hmany, ?_⟩
  have hw1 := hw.but b1 hg.t
  have leafW : ∀ H2, But2 tp wl H H2 → GS H2 tp kd wl hF ws → Wls H2 ar xs → ∀ s7 s8 s9 s10 : Option V, (tRet (tCall spLeaf [] E0 (tCons (tVar 0) (tCons (tVar 1) (tCons (tVar 2) tNil))))) { nx := fun x H' => Q V.non H', rt := Q }
      [some (.ref tp), some (.ref kd), some (.ref ar), some (.int room), some (.int deep), some (.str fn), some (.int many), s7, s8, s9, s10] H2 := by
    intro H2 b2 g2 w2 s7 s8 s9 s10
    refine ⟨_, rfl, _, rfl, _, rfl, tp, .ref kd, ar, xs, rfl, g2.t, w2, by omega, fun a t H3 b3 t3 gd => ?_⟩
    exact q a t [] H3 ws (b2.trans b3.two) (List.append_nil ws).symm (g2.one b3 t3) ((gd hF).le (by omega) (by omega))
  refine ⟨_, rfl, _, _, rfl, rfl, _, rfl, _, _, rfl, rfl, _, rfl, ?_⟩
  refine ite_share (P := many > 0 → many + 3 ≤ room) (fun hp => ?_) (fun c z => ?_) (fun c kB => ?_)
  rotate_left
  · have c' : ¬ room < many + 3 := fun y => c (decide_eq_true y)
    omega
  · refine ⟨_, rfl, _, _, rfl, rfl, _, rfl, ?_⟩
    refine ite2 (fun c2 => ?_) (fun c2 => ?_)
    · exact leafW H1 b1.two g1 hw1 _ _ _ _
    · exact kB fun z => absurd (decide_eq_true z) c2
  -- some = []
  refine ⟨sz (by show 0 ≤ 100000; decide), fun sl hsl => ?_⟩
  have s1 := same_new hsl (.lst [])
  have hsl0 : H sl = none := by
    cases e : H sl with
    | none => rfl
    | some o =>
      obtain ⟨n1, n2⟩ := g1.new hsl
      rw [b1 _ _ n1 e] at hsl
      cases hsl
  -- first
  refine ⟨_, rfl, tp, 4, rfl, g1.t.same s1, by decide, by decide, fun r2 H2 r3 r4 b2 t2 => ?_⟩
  have g1s := g1.same s1
  have g2 := g1s.one b2 t2
  obtain ⟨nst, nsw⟩ := g1.new hsl
  have h2 : H2 sl = some (.lst []) := b2 _ _ nst upd_same
  have B2 : But2 tp wl H H2 := b1.two.trans ((but2_same s1).trans b2.two)
  have w2 := (hw1.but (but_same s1) g1.t).but b2 g1s.t
  refine ⟨_, rfl, _, _, rfl, rfl, .inr ⟨_, rfl, _, _, rfl, rfl, .inl (small64 r3 (by omega)), ?_⟩⟩
  have hfirst : ∃ fi : Int, r2 * (if decide (many > 0) = true then 1 else 0) = fi ∧ 0 ≤ fi ∧ fi < 4 ∧ (fi > 0 → many > 0) := by
    by_cases c : many > 0
    · refine ⟨r2, ?_, r3, r4, fun _ => c⟩
      rw [if_pos (decide_eq_true c)]
      omega
    · refine ⟨0, ?_, by decide, by decide, fun z => by omega⟩
      rw [if_neg (by rw [decide_eq_false c]; exact Bool.false_ne_true)]
      omega
  obtain ⟨fi, efi, fi0, fi4, fim⟩ := hfirst
  simp only [efi]
  -- shares
  refine ⟨_, rfl, _, rfl, _, rfl, sz (by show 2 ≤ 100000; decide), fun p2 hp2 => ?_⟩
  have s3 := same_new hp2 (.lst [.int 1, .int 3])
  have hix : ∃ d : Int, atI [V.int 1, .int 3] (if decide (fi > 0) = true then 1 else 0) = some (.int d) ∧ ((fi > 0 ∧ d = 3) ∨ (¬ fi > 0 ∧ d = 1)) := by
    by_cases c : fi > 0
    · exact ⟨3, by rw [if_pos (decide_eq_true c)]; exact at1, .inl ⟨c, rfl⟩⟩
    · exact ⟨1, by rw [if_neg (by rw [decide_eq_false c]; exact Bool.false_ne_true)]; exact at0, .inr ⟨c, rfl⟩⟩
  obtain ⟨d, hd0, hd9⟩ := hix
  refine ⟨_, rfl, _, _, rfl, rfl, .inr ⟨_, rfl, p2, _, _, _, rfl, rfl, SqL.of upd_same, hd0, _, _, rfl, rfl, ?_⟩⟩
  have hmx : ∃ mx : Int, (if room - d > many then room - d else many) = mx ∧ many ≤ mx ∧ mx ≤ 900 ∧ (fi > 0 → mx = room - 3) ∧ (¬ fi > 0 → mx ≤ room - 1 ∨ (many = 0 ∧ mx ≤ room)) := by
    refine ⟨_, rfl, ?_⟩
    split <;> omega
  obtain ⟨mx, emx, mx0, mx1, mx2, mx3⟩ := hmx
  refine ⟨_, _, rfl, ?_⟩
  simp only [emx]
  refine ⟨_, rfl, tp, mx, many, rfl, g2.t.same s3, m0, mx0, by omega, fun sh ss H4 b4 t4 hsh h4 hsl4 hs1 hsum => ?_⟩
  have g3 := g2.same s3
  have g4 := g3.one b4 t4
  have B4 : But2 tp wl H H4 := B2.trans ((but2_same s3).trans b4.two)
  have w4 := (w2.but (but_same s3) g2.t).but b4 g3.t
  have h4s : H4 sl = some (.lst []) := b4 _ _ nst (s3 _ _ h2)
  have nsh : sh ≠ sl := (ne_of_none (s3 _ _ h2) hsh).symm
  obtain ⟨nht, nhw⟩ := g3.new hsh
  have nskd : sl ≠ kd := (ne_of_none k1 hsl0).symm
  have nsar : ar ≠ sl := ne_of_none hw.1 hsl0
  have hsh0 : sh ≠ sl := nsh
  refine ⟨_, rfl, many, rfl, by omega, by omega, ?_⟩
  refine for_range (lo := 0) (n := many.toNat) (AskI H tp kd wl ar sl sh hF ws xs ss fn room deep many fi) ?_ ?_ ?_
  · refine ⟨_, [], [], ws, rfl, B4, g4, (List.append_nil ws).symm, w4, h4, h4s, trivial, rfl, (fun _ z => nomatch z), ?_⟩
    show (0 : Int) ≤ 0 + _
    split <;> omega
  · rintro i σ H5 hi ⟨o10, vs, ts, wsi, rfl, B5, g5, hws5, w5, h5, h5s, k5s, hlen, hts, hcn⟩
    have hil : i < ss.length := by omega
    have hss : ss[i]? = some ss[i] := List.getElem?_eq_getElem hil
    have hs1i := hs1 _ (List.getElem_mem hil)
    have hsi := le_sum hs1 (List.getElem_mem hil)
    have htake := sum_take hss
    have hvl := k5s.len
    have e0 : (0 : Int) + (i : Nat) = ((i : Nat) : Int) := by omega
    have put : ∀ (a : Addr) (t : Tm) (H6 : Hp) (ws6 : List Str), But2 tp wl H5 H6 → GS H6 tp kd wl hF ws6 → wsi = ws6 ++ (letsOf t).reverse → okS hF t xs → At H6 t a → okT t → HtLe (deep.toNat + 1) t → (cnts (ts ++ [t]) : Int) ≤ (ss.take (i + 1)).sum + (if fi > 0 then 2 else 0) →
        ∃ l zs y, V.ref sl = .ref l ∧ [V.ref a] = [y] ∧ H6 l = some (.lst zs) ∧ zs.length < sizeLine ∧ AskI H tp kd wl ar sl sh hF ws xs ss fn room deep many fi (i + 1) [some (.ref tp), some (.ref kd), some (.ref ar), some (.int room), some (.int deep), some (.str fn), some (.int many), some (.ref sl), some (.int fi), some (.ref sh), some (.int (0 + (i : Nat)))] (upd H6 l (.lst (zs ++ [y]))) := by
      intro a t H6 ws6 b6 g6 hws6 sc6 at6 ok6 ht6 cn6
      have h6s : H6 sl = some (.lst vs) := b6 _ _ nst nsw h5s
      have tk6 := g5.tk b6
      refine ⟨sl, vs, .ref a, rfl, rfl, h6s, Nat.lt_of_le_of_lt (m := 1000) (by omega) (by decide), _, vs ++ [.ref a], ts ++ [t], ws6, rfl, ?_, ?_, ?_, ?_, ?_, upd_same, ?_, ?_, ?_, cn6⟩
      · exact (B5.trans b6).put hsl0
      · refine g6.put h6s nst nsw nskd (fun _ z => nomatch z) fun x zs z => ?_
        have e := HO.lst.inj z
        cases ts with
        | nil =>
          cases vs with
          | nil => cases e
          | cons _ _ => exact k5s.elim
        | cons t0 tr =>
          cases vs with
          | nil => cases e
          | cons v0 vr =>
            obtain ⟨⟨b0, e0', _⟩, _⟩ := k5s
            rw [e0'] at e
            cases (List.cons.inj e).1
      · rw [hws5, hws6, letsL_app, List.reverse_append, List.append_assoc]
        show _ = ws6 ++ ((letsOf t ++ []).reverse ++ _)
        rw [List.append_nil]
      · have w6 := w5.two b6 g5 naw
        exact ⟨by rw [upd_ne nsar]; exact w6.1, w6.2⟩
      · rw [upd_ne nsh]
        exact b6 _ _ nht nhw h5
      · exact ((k5s.tk tk6).app (us := [.ref a]) (ss := [t]) ⟨⟨a, rfl, at6⟩, trivial⟩).tk (tk_put h6s)
      · rw [List.length_append, hlen]
        rfl
      · intro u hu
        rcases List.mem_append.mp hu with z | z
        · exact hts u z
        · rw [List.mem_singleton.mp z]
          exact ⟨ok6, ht6, sc6⟩
    refine ⟨_, rfl, rfl, _, rfl, ?_⟩
    refine ite_share (P := ¬ (i = 0 ∧ fi > 0)) (fun hp2 => ?_) (fun c z => c (decide_eq_true (by rw [z.1]; rfl))) (fun c kB => ?_)
    · -- the term is drawn
      refine ⟨_, rfl, .inl ⟨rfl, _, SqL.of h5s⟩, _, rfl, _, rfl, _, rfl, _, rfl, _, rfl, sh, _, _, .int ss[i], rfl, rfl, SqL.of h5, ?_, _, rfl, _, _, rfl, rfl, ?_⟩
      · rw [e0]
        exact atI_nat (by rw [List.getElem?_map, hss]; rfl)
      refine ⟨tp, kd, wl, ar, hF, wsi, xs, ss[i], deep - 1, rfl, g5, w5, naw, by omega, hs1i, by omega, by omega, by omega, fun a t ls H6 ws6 b6 e6 g6 gd6 => ?_⟩
      refine put a t H6 ws6 b6 g6 (by rw [gd6.lt]; exact e6) gd6.sc gd6.at_ gd6.ok (gd6.dp.le (by omega)) ?_
      have c6 := gd6.cn
      rw [cnts_app, htake]
      show ((cnts ts + (cnt t + 0) : Nat) : Int) ≤ _
      omega
    · have c' : i = 0 := by
        have := V.int.inj (of_decide_eq_true c)
        omega
      refine ⟨_, rfl, _, _, rfl, rfl, _, rfl, ?_⟩
      refine ite2 (fun c2 => ?_) (fun c2 => ?_)
      · have c2' : fi > 0 := of_decide_eq_true c2
        refine ⟨_, rfl, .inl ⟨rfl, _, SqL.of h5s⟩, _, rfl, ar, xs, rfl, w5, fun a t H6 s6 gd6' _ => ?_⟩
        have gd6 := gd6' hF
        refine put a t H6 wsi (but2_same s6) (g5.same s6) (by rw [gd6.lt]; exact (List.append_nil wsi).symm) gd6.sc gd6.at_ gd6.ok (gd6.dp.le (by omega)) ?_
        have c6 := gd6.cn
        subst c'
        have hz : ts = [] := List.eq_nil_of_length_eq_zero hlen
        subst hz
        rw [htake, if_pos c2']
        show ((cnt t + 0 : Nat) : Int) ≤ 0 + _ + 2
        omega
      · exact kB fun z => c2 (decide_eq_true z.2)
  · rintro σ H5 ⟨o10, vs, ts, wsi, rfl, B5, g5, hws5, w5, h5, h5s, k5s, hlen, hts, hcn⟩
    refine ⟨_, rfl, _, rfl, sl, _, rfl, .inl ⟨SqL.of h5s, fun pp hpp => ⟨sz (by show 3 ≤ 100000; decide), fun pa hpa => ?_⟩⟩⟩
    have s6 := same_new hpp (.tup vs)
    have s7 := same_new hpa (.tup [.str "ask", .str fn, .ref pp])
    have s67 := s6.trans s7
    have hvl := k5s.len
    refine q pa (mkL (.ask fn) ts) (letsL ts) _ wsi (B5.trans (but2_same s67)) hws5 (g5.same s67) ⟨?_, ?_, ?_, ?_, ?_, lt_mkL⟩
    · exact at_mkL (vs := vs) ⟨by omega, pp, upd_same, s7 _ _ upd_same⟩ (k5s.mono s67)
    · exact ok_mkL (k3.2 fn hfn) fun t ht => (hts t ht).1
    · rw [cnt_mkL]
      have e1 : ss.take many.toNat = ss := List.take_of_length_le (by omega)
      rw [e1] at hcn
      by_cases c : fi > 0
      · rw [if_pos c] at hcn
        have := mx2 c
        omega
      · rw [if_neg c] at hcn
        rcases mx3 c with z | ⟨z1, z2⟩
        · omega
        · have hz : ts = [] := List.eq_nil_of_length_eq_zero (by omega)
          rw [hz]
          show 1 + 0 ≤ _
          omega
    · exact ht_mkL fun t ht => (hts t ht).2.1
    · refine sc_mkL ?_ fun i t hi => (hts t (mem_of_get hi)).2.2
      show hF fn = some ts.length
      rw [mF, hlen]
end
end KB

namespace KB
open PySem L2

theorem stk_ok_app {d : Nat} {hF : Str → Option Nat} {xs : List Str} {ts : List Tm} {t : Tm} (h : ∀ u ∈ ts, okT u ∧ HtLe d u ∧ okS hF u xs) (o : okT t) (k : HtLe d t) (c : okS hF t xs) : ∀ u ∈ ts ++ [t], okT u ∧ HtLe d u ∧ okS hF u xs := fun u hu => by
  rcases List.mem_append.mp hu with z | z
  · exact h u z
  · rw [List.mem_singleton.mp z]
    exact ⟨o, k, c⟩
theorem sum2 {xs : List Int} (h : xs.length = 2) : ∃ a b, xs = [a, b] := by
  match xs, h with
  | [a, b], _ => exact ⟨a, b, rfl⟩
section
variable {P : Program} {w : World} {K : PySem.W.Frag} {mg : Str → Option Value} {base : Heap}
abbrev s_law_term : Stmt := top 29
theorem scLterm : FnScope ["tape", "known", "around", "room", "deep", "words", "word", "x", "shares", "first", "some", "share"] ["tape", "known", "around", "room", "deep"] (defScope s_law_term) := ⟨rfl, rfl, rfl, by decide +kernel, rfl, by decide +kernel, by decide +kernel⟩
def wds10 : List V := [.str "plus", .str "less", .str "tell", .str "let", .str "if", .str "ask", .str "ask", .str "ask", .str "plus", .str "let"]
theorem ok_term (T : Txt K mg) {n : Nat} {f fg fh fs_ fa : Addr} {fd gd hd sd ad : FuncData} (F : Fun K "_law_term" "_law_term" s_law_term f fd) (G_law_digit : FnOk P w K mg base CX0 1 fg gd ["tape", "many"] spDig) (R_law_digit : Ref K mg "_law_digit" fg gd ["tape", "many"])
    (G_law_leaf : FnOk P w K mg base CX0 3 fh hd ["tape", "known", "around"] spLeaf) (R_law_leaf : Ref K mg "_law_leaf" fh hd ["tape", "known", "around"]) (G_law_shares : FnOk P w K mg base CX0 2 fs_ sd ["tape", "room", "many"] spShr) (R_law_shares : Ref K mg "_law_shares" fs_ sd ["tape", "room", "many"])
    (G_law_ask : FnOk P w K mg base CX0 (2 * n + 5) fa ad ["tape", "known", "around", "room", "deep"] (spAsk n)) (R_law_ask : Ref K mg "_law_ask" fa ad ["tape", "known", "around", "room", "deep"])
    (G_law_term : FnOk P w K mg base CX0 (2 * n + 4) f fd ["tape", "known", "around", "room", "deep"] (spTerm n)) (R_law_term : Ref K mg "_law_term" f fd ["tape", "known", "around", "room", "deep"]) : FnOk P w K mg base CX0 (2 * n + 6) f fd ["tape", "known", "around", "room", "deep"] (spTerm (n + 1)) := by
  refine F.ok scLterm (fun vs H Q E h => ?_) (fun cdv A outer s H vs Q E hr h => ?_)
  · obtain ⟨tp, kd, wl, ar, hF, ws, xs, room, deep, rfl, _⟩ := h
    rfl
  obtain ⟨tp, kd, wl, ar, hF, ws, xs, room, deep, rfl, hg, hw, naw, hx, hr1, hr2, hd1, hd2, q⟩ := h
  refine ⟨_, (pss_cons (ps_if (PW.pt (pw_or (pt_cmpR op_lt (pv 3) pe_int (nomark _)) (pw_or1 (pt_cmpR op_eq (pv 4) pe_int (nomark _))))) (pss_one (ps_ret (pe_call G_law_leaf (hr.mono (by omega)) rfl R_law_leaf.m R_law_leaf.k R_law_leaf.b .nil pass0 (pa_cons (pv 0) (pa_cons (pv 1) (pa_cons (pv 2) pa_nil)))))) pss_nil)
    (pss_cons (ps_set (i := 5) scLterm.nd rfl (Or.inl rfl) (pe_lst (pa_cons pe_str (pa_cons pe_str (pa_cons pe_str (pa_cons pe_str (pa_cons pe_str (pa_cons pe_str (pa_cons pe_str (pa_cons pe_str (pa_cons pe_str (pa_cons pe_str pa_nil))))))))))))
    (pss_cons (ps_set (i := 6) scLterm.nd rfl (Or.inl rfl) (pe_ix ix_list (pv 5) (pe_call G_law_digit (hr.mono (by omega)) rfl R_law_digit.m R_law_digit.k R_law_digit.b .nil pass0 (pa_cons (pv 0) (pa_cons pe_int pa_nil))) (fun _ _ => rfl)))
    (pss_cons (ps_if (pt_cmpR op_eq (pv 6) pe_str (nomark _)) (pss_one (ps_ret (pe_call G_law_ask hr rfl R_law_ask.m R_law_ask.k R_law_ask.b .nil pass0 (pa_cons (pv 0) (pa_cons (pv 1) (pa_cons (pv 2) (pa_cons (pv 3) (pa_cons (pv 4) pa_nil)))))))) pss_nil)
    (pss_cons (ps_if (PW.pt (pw_or (pt_cmpR op_eq (pv 6) pe_str (nomark _)) (pw_or1 (pt_cmpR op_lt (pv 3) pe_int (nomark _))))) (pss_one (ps_ret (pe_tup (pa_cons pe_str (pa_cons (pe_call G_law_term (hr.mono (by omega)) rfl R_law_term.m R_law_term.k R_law_term.b .nil pass0 (pa_cons (pv 0) (pa_cons (pv 1) (pa_cons (pv 2) (pa_cons (pe_op op_sub (pv 3) pe_int) (pa_cons (pe_op op_sub (pv 4) pe_int) pa_nil)))))) pa_nil))))) pss_nil)
    (Evl.pss_cut (ps_if (PW.pt (pw_and (pt_cmpR op_eq (pv 6) pe_str (nomark _)) (pw_and1 (pt_cmpR (op_neD hr.units) (pe_dget (hu_of hr) (pv 1) pe_str (fun _ _ => rfl)) (pe_lst pa_nil) (nomark _))))) (pss_cons (ps_set (i := 7) scLterm.nd rfl (Or.inl rfl) (pe_bm0 PySem.F.plainAttrs_list PySem.F.slot_list_pop PySem.F.type_list_pop mt_pop (pe_dget (hu_of hr) (pv 1) pe_str (fun _ _ => rfl))))
    (pss_cons (ps_set (i := 8) scLterm.nd rfl (Or.inl rfl) (pe_call G_law_shares (hr.mono (by omega)) rfl R_law_shares.m R_law_shares.k R_law_shares.b .nil pass0 (pa_cons (pv 0) (pa_cons (pe_op op_sub (pv 3) pe_int) (pa_cons pe_int pa_nil)))))
    (pss_cons (ps_set (i := 9) scLterm.nd rfl (Or.inl rfl) (pe_call G_law_term (hr.mono (by omega)) rfl R_law_term.m R_law_term.k R_law_term.b .nil pass0 (pa_cons (pv 0) (pa_cons (pv 1) (pa_cons (pv 2) (pa_cons (pe_ix ix_list (pv 8) pe_int (fun _ _ => rfl)) (pa_cons (pe_op op_sub (pv 4) pe_int) pa_nil)))))))
    (pss_one (ps_ret (pe_tup (pa_cons pe_str (pa_cons (pv 7) (pa_cons (pv 9) (pa_cons (pe_call G_law_term (hr.mono (by omega)) rfl R_law_term.m R_law_term.k R_law_term.b .nil pass0 (pa_cons (pv 0) (pa_cons (pv 1) (pa_cons (pe_op op_cat (pv 2) (pe_lst (pa_cons (pv 7) pa_nil))) (pa_cons (pe_ix ix_list (pv 8) pe_int (fun _ _ => rfl)) (pa_cons (pe_op op_sub (pv 4) pe_int) pa_nil)))))) pa_nil)))))))))) pss_nil)
    (pss_cons (ps_set (i := 8) scLterm.nd rfl (Or.inl rfl) (pe_call G_law_shares (hr.mono (by omega)) rfl R_law_shares.m R_law_shares.k R_law_shares.b .nil pass0 (pa_cons (pv 0) (pa_cons (pe_op op_sub (pv 3) pe_int) (pa_cons (pe_ix ix_list (pe_lst (pa_cons pe_int (pa_cons pe_int pa_nil))) (pe_callTy call_int1 (by rfl) T.m_int (by decide +kernel) (pa_cons (pe_cmpR op_eq (pv 6) pe_str (nomark _)) pa_nil)) (fun _ _ => rfl)) pa_nil)))))
    (pss_cons (ps_setLc (i := 10) (own := [("share", 11)]) (g := gName 11) (by rfl) scLterm.nd rfl rfl (sw_true rfl rfl rfl (by decide +kernel)) (pi_list (pv 8)) (blkOk_by (own := [("share", 11)]) (N := ["tape", "known", "around", "room", "deep", "words", "word", "x", "shares", "first", "some", "share"]) (sc := defScope s_law_term) (by decide +kernel)) (fun _ _ _ _ _ => (pg_name (i := 11) scLterm.nd rfl (Or.inl rfl))) (fun _ _ _ _ _ => pts_nil) (fun _ _ _ _ _ => (pe_call G_law_term (hr.mono (by omega)) rfl R_law_term.m R_law_term.k R_law_term.b .nil pass0 (pa_cons (pv 0) (pa_cons (pv 1) (pa_cons (pv 2) (pa_cons (pv 11) (pa_cons (pe_op op_sub (pv 4) pe_int) pa_nil))))))))
    (pss_one (ps_ret (pe_op op_catA (pe_tup (pa_cons (pe_ix ix_list (pe_lst (pa_cons (pv 6) (pa_cons pe_str pa_nil))) (pe_callTy call_int1 (by rfl) T.m_int (by decide +kernel) (pa_cons (pe_cmpR op_eq (pv 6) pe_str (nomark _)) pa_nil)) (fun _ _ => rfl)) pa_nil)) (pe_callTy call_tuple_of (by rfl) T.m_tuple (by decide +kernel) (pa_cons (pv 10) pa_nil))))))))))))), ?_⟩
  have leafW : ∀ s5 s6 s7 s8 s9 s10 s11 : Option V, (tRet (tCall spLeaf [] E0 (tCons (tVar 0) (tCons (tVar 1) (tCons (tVar 2) tNil))))) { nx := fun x H' => Q V.non H', rt := Q }
      [some (.ref tp), some (.ref kd), some (.ref ar), some (.int room), some (.int deep), s5, s6, s7, s8, s9, s10, s11] H := by
    intro s5 s6 s7 s8 s9 s10 s11
    refine ⟨_, rfl, _, rfl, _, rfl, tp, .ref kd, ar, xs, rfl, hg.t, hw, by omega, fun a t H3 b3 t3 gd => ?_⟩
    exact q a t [] H3 ws b3.two (List.append_nil ws).symm (hg.one b3 t3) ((gd hF).le (by omega) (by omega))
  refine ⟨_, rfl, _, _, rfl, rfl, _, rfl, ?_⟩
  refine ite2 (fun c1 => ?_) (fun c1 => ?_)
  · exact leafW _ _ _ _ _ _ _
  have hroom : 2 ≤ room := by
    have : ¬ room < 2 := fun z => c1 (decide_eq_true z)
    omega
  refine ⟨_, rfl, rfl, _, rfl, ?_⟩
  refine ite2 (fun c2 => ?_) (fun c2 => ?_)
  · exact leafW _ _ _ _ _ _ _
  have hdeep : 1 ≤ deep := by
    have : deep ≠ 0 := fun z => c2 (decide_eq_true (congrArg V.int z))
    omega
  clear leafW
  -- words, word
  refine ⟨sz (by show 10 ≤ 100000; decide), fun p0 hp0 => ?_⟩
  have s0 := same_new hp0 (.lst wds10)
  have g0 := hg.same s0
  have w0 := hw.but (but_same s0) hg.t
  obtain ⟨n0t, n0w⟩ := hg.new hp0
  refine ⟨_, rfl, _, rfl, tp, 10, rfl, g0.t, by decide, by decide, fun r H1 r0 r1 b1 t1 => ?_⟩
  have g1 := g0.one b1 t1
  have w1 := w0.but b1 g0.t
  have B1 : But2 tp wl H H1 := (but2_same s0).trans b1.two
  obtain ⟨v, hv, hm⟩ := at_some (xs := wds10) r0 (by show r < 10; exact r1)
  refine ⟨p0, _, _, v, rfl, rfl, SqL.of (b1 _ _ n0t upd_same), hv, ?_⟩
  -- the rest, for each word
  have hword : ∃ wd : Str, v = .str wd ∧ (wd = "ask" ∨ wd = "tell" ∨ wd = "let" ∨ wd = "if" ∨ wd = "plus" ∨ wd = "less") := by
    simp only [wds10, List.mem_cons, List.not_mem_nil, or_false] at hm
    rcases hm with z | z | z | z | z | z | z | z | z | z
    · exact ⟨_, z, .inr (.inr (.inr (.inr (.inl rfl))))⟩
    · exact ⟨_, z, .inr (.inr (.inr (.inr (.inr rfl))))⟩
    · exact ⟨_, z, .inr (.inl rfl)⟩
    · exact ⟨_, z, .inr (.inr (.inl rfl))⟩
    · exact ⟨_, z, .inr (.inr (.inr (.inl rfl)))⟩
    · exact ⟨_, z, .inl rfl⟩
    · exact ⟨_, z, .inl rfl⟩
    · exact ⟨_, z, .inl rfl⟩
    · exact ⟨_, z, .inr (.inr (.inr (.inr (.inl rfl))))⟩
    · exact ⟨_, z, .inr (.inr (.inl rfl))⟩
  obtain ⟨wd, rfl, hwd⟩ := hword
  refine ⟨_, rfl, rfl, _, rfl, ?_⟩
  refine ite2 (fun c3 => ?_) (fun c3 => ?_)
  · -- ask
    refine ⟨_, rfl, _, rfl, _, rfl, _, rfl, _, rfl, tp, kd, wl, ar, hF, ws, xs, room, deep, rfl, g1, w1, naw, hx, hroom, hr2, hdeep, by omega, fun a t ls H3 ws3 b3 e3 g3 gd => ?_⟩
    exact q a t ls H3 ws3 (B1.trans b3) e3 g3 gd
  have nask : wd ≠ "ask" := fun z => c3 (decide_eq_true (congrArg V.str z))
  have ndeep : (deep - 1).toNat < n := by omega
  refine ⟨_, rfl, rfl, _, rfl, ?_⟩
  have tellW : ∀ s5 s6 s7 s8 s9 s10 s11 : Option V, (tRet (tTup (tCons (tC (.str "tell")) (tCons (tCall (spTerm n) [] E0 (tCons (tVar 0) (tCons (tVar 1) (tCons (tVar 2) (tCons (tOp (rI0 fun i j => .int (i - j)) (tVar 3) (tC (.int 1))) (tCons (tOp (rI0 fun i j => .int (i - j)) (tVar 4) (tC (.int 1))) tNil)))))) tNil)))) { nx := fun x H' => Q V.non H', rt := Q }
      [some (.ref tp), some (.ref kd), some (.ref ar), some (.int room), some (.int deep), s5, s6, s7, s8, s9, s10, s11] H1 := by
    intro s5 s6 s7 s8 s9 s10 s11
    refine ⟨_, rfl, _, rfl, _, rfl, _, rfl, _, _, rfl, rfl, _, rfl, _, _, rfl, rfl, tp, kd, wl, ar, hF, ws, xs, room - 1, deep - 1, rfl, g1, w1, naw, by omega, by omega, by omega, by omega, ndeep, fun a t ls H3 ws3 b3 e3 g3 gd => ?_⟩
    refine ⟨sz (by show 2 ≤ 100000; decide), fun p hp => ?_⟩
    have s4 := same_new hp (.tup [.str "tell", .ref a])
    refine q p (mkL .tell [t]) ls _ ws3 (B1.trans (b3.trans (but2_same s4))) e3 (g3.same s4) ⟨?_, ?_, ?_, ?_, ?_, ?_⟩
    · exact at_mkL (vs := [.ref a]) ⟨rfl, upd_same⟩ ⟨⟨a, rfl, gd.at_.mono s4⟩, trivial⟩
    · exact ok_mkL trivial fun u hu => by
        rw [List.mem_singleton.mp hu]
        exact gd.ok
    · rw [cnt_mkL]
      have := gd.cn
      show 1 + (cnt t + 0) ≤ _
      omega
    · exact ht_mkL (n := deep.toNat + 1) fun u hu => by
        rw [List.mem_singleton.mp hu]
        exact gd.dp.le (by omega)
    · refine sc_mkL trivial fun i u hi => ?_
      rw [List.mem_singleton.mp (mem_of_get hi)]
      exact gd.sc
    · rw [lt_mkL, letsL_cons, gd.lt]
      exact List.append_nil ls
  refine ite2 (fun c4 => ?_) (fun c4 => ?_)
  · exact tellW _ _ _ _ _ _ _
  have ntell : wd ≠ "tell" := fun z => c4 (decide_eq_true (congrArg V.str z))
  refine ⟨_, rfl, _, _, rfl, rfl, _, rfl, ?_⟩
  refine ite2 (fun c5 => ?_) (fun c5 => ?_)
  · exact tellW _ _ _ _ _ _ _
  have hroom4 : 4 ≤ room := by
    have : ¬ room < 4 := fun z => c5 (decide_eq_true z)
    omega
  clear tellW
  obtain ⟨el, hd', fs, kvs, k1, k2, k3, k4, k5, k6, k7⟩ := g1.k
  have hws := g1.w
  have hwl := g1.wn
  refine ⟨fun σ' H' => Same H1 H' ∧ σ' = [some (.ref tp), some (.ref kd), some (.ref ar), some (.int room), some (.int deep), some (.ref p0), some (.str wd), none, none, none, none, none], ?_, ?_⟩
  · -- let
    refine ⟨_, rfl, rfl, _, rfl, ?_⟩
    refine ite2 (fun c6 => ?_) (fun c6 => ⟨Same.refl _, rfl⟩)
    refine ⟨_, rfl, kd, _, rfl, get_words k1, sz (by show 0 ≤ 100000; decide), fun p1 hp1 => ?_⟩
    have s2 := same_new hp1 (.lst [])
    refine ⟨.list (ws.map PyData.str), .list [], .lst (SqL.of (s2 _ _ hws.1)) (dp_strs ws), .lst (SqL.of upd_same) .nil, shaped_strs hws.2, rfl, _, rfl, ?_⟩
    rw [eqv_nil]
    cases hnil : ws with
    | nil => exact iteF ⟨s2, rfl⟩
    | cons y0 yr =>
      rw [← hnil]
      have hne : ws ≠ [] := by
        rw [hnil]
        exact List.cons_ne_nil _ _
      have hemp : ws.isEmpty = false := by
        rw [hnil]
        rfl
      rw [hemp]
      have g2 := g1.same s2
      have w2 := w1.but (but_same s2) g1.t
      have hws2 := s2 _ _ hws.1
      generalize upd H1 p1 (.lst []) = H2 at s2 g2 w2 hws2
      have hlast : (ws.map V.str)[(ws.map V.str).length - 1]? = some (.str (ws.getLast hne)) := by
        rw [List.length_map, List.getElem?_map, ← List.getLast?_eq_getElem?, List.getLast?_eq_some_getLast hne]
        rfl
      have hxl := hws.2 _ (List.getLast_mem hne)
      have hwsx : ws = ws.dropLast ++ [ws.getLast hne] := (List.dropLast_concat_getLast hne).symm
      generalize ws.getLast hne = xl at hlast hxl hwsx
      refine iteT ⟨_, rfl, kd, _, rfl, get_words (s2 _ _ k1), .inl ⟨rfl, _, SqL.of hws2⟩, wl, _, .str xl, rfl, rfl, hws2, hlast, ?_⟩
      have eD : (ws.map V.str).dropLast = ws.dropLast.map V.str := by rw [List.map_dropLast]
      rw [eD]
      have b3 : But2 tp wl H2 (upd H2 wl (.lst (ws.dropLast.map V.str))) := fun b o _ m h => by
        rw [upd_ne m]
        exact h
      have ntw : tp ≠ wl := (wls_tp hws2 g2.t).symm
      have g3 : GS (upd H2 wl (.lst (ws.dropLast.map V.str))) tp kd wl hF ws.dropLast := g2.step b3 (by
        obtain ⟨z, hz⟩ := g2.t
        exact ⟨z, by rw [upd_ne ntw]; exact hz⟩) ⟨upd_same, fun x hx => hws.2 x ((List.dropLast_sublist ws).subset hx)⟩ (by rw [List.length_dropLast]; omega)
      have w3 := w2.two b3 g2 naw
      have B3 : But2 tp wl H (upd H2 wl (.lst (ws.dropLast.map V.str))) := B1.trans ((but2_same s2).trans b3)
      generalize upd H2 wl (.lst (ws.dropLast.map V.str)) = H3 at b3 g3 w3 B3
      refine ⟨_, rfl, _, rfl, _, _, rfl, rfl, tp, room - 1, 2, rfl, g3.t, by decide, by omega, by omega, fun sh ss H4 b4 t4 hsh h4 hsl4 hs1 hsum => ?_⟩
      obtain ⟨x0, x1, rfl⟩ := sum2 (xs := ss) (by omega)
      have hx0 := hs1 x0 List.mem_cons_self
      have hx1 := hs1 x1 (List.mem_cons_of_mem _ List.mem_cons_self)
      have esum : x0 + x1 ≤ room - 1 := by
        have e : [x0, x1].sum = x0 + (x1 + 0) := rfl
        omega
      have g4 := g3.one b4 t4
      have w4 := w3.but b4 g3.t
      obtain ⟨nht, nhw⟩ := g3.new hsh
      -- first
      refine ⟨_, rfl, _, rfl, _, rfl, _, rfl, sh, _, _, _, rfl, rfl, SqL.of h4, at0, _, rfl, _, _, rfl, rfl, tp, kd, wl, ar, hF, _, xs, x0, deep - 1, rfl, g4, w4, naw, by omega, by omega, by omega, by omega, ndeep, fun a5 t5 ls5 H5 ws5 b5 e5 g5 gd5 => ?_⟩
      have w5 := w4.two b5 g4 naw
      have h5 := b5 _ _ nht nhw h4
      refine ⟨_, rfl, _, rfl, _, rfl, _, rfl, _, rfl, _, rfl, sz (by show 1 ≤ 100000; decide), fun p6 hp6 => ?_⟩
      have s6 := same_new hp6 (.lst [.str xl])
      refine ⟨ar, p6, _, _, rfl, rfl, s6 _ _ w5.1, upd_same, sz (by rw [List.length_map]; show xs.length + 1 ≤ 100000; omega), fun p7 hp7 => ?_⟩
      have s7 := same_new hp7 (.lst (xs.map V.str ++ [.str xl]))
      have s67 := s6.trans s7
      have g7 := g5.same s67
      obtain ⟨_, n7w⟩ := (g5.same s6).new hp7
      have w7 : Wls (upd (upd H5 p6 (.lst [.str xl])) p7 (.lst (xs.map V.str ++ [.str xl]))) p7 (xs ++ [xl]) := by
        refine ⟨?_, fun x hx => ?_⟩
        · rw [upd_same, List.map_append]
          rfl
        · rcases List.mem_append.mp hx with z | z
          · exact hw.2 x z
          · rw [List.mem_singleton.mp z]
            exact hxl
      refine ⟨_, rfl, sh, _, _, _, rfl, rfl, SqL.of (s67 _ _ h5), at1, _, rfl, _, _, rfl, rfl, tp, kd, wl, p7, hF, _, xs ++ [xl], x1, deep - 1, rfl, g7, w7, n7w, ?_, by omega, by omega, by omega, ndeep, fun a8 t8 ls8 H8 ws8 b8 e8 g8 gd8 => ?_⟩
      · rw [List.length_append, List.length_singleton]
        omega
      refine ⟨sz (by show 4 ≤ 100000; decide), fun p9 hp9 => ?_⟩
      have s9 := same_new hp9 (.tup [.str "let", .str xl, .ref a5, .ref a8])
      have tk59 := (tk_same s67).trans ((g7.tk b8).trans (tk_same s9))
      refine q p9 (mkL (.lett xl) [t5, t8]) ([xl] ++ (ls5 ++ ls8)) _ ws8 (B3.trans (b4.two.trans (b5.trans ((but2_same s67).trans (b8.trans (but2_same s9)))))) ?_ (g8.same s9) ⟨?_, ?_, ?_, ?_, ?_, ?_⟩
      · rw [hwsx, e5, e8]
        simp
      · exact at_mkL (vs := [.ref a5, .ref a8]) ⟨rfl, upd_same⟩ ⟨⟨a5, rfl, gd5.at_.tk tk59⟩, ⟨a8, rfl, gd8.at_.mono s9⟩, trivial⟩
      · refine ok_mkL hxl fun u hu => ?_
        rcases List.mem_cons.mp hu with z | z
        · rw [z]
          exact gd5.ok
        · rw [List.mem_singleton.mp z]
          exact gd8.ok
      · have c5 := gd5.cn
        have c8 := gd8.cn
        rw [cnt_mkL]
        show 1 + (cnt t5 + (cnt t8 + 0)) ≤ _
        omega
      · refine ht_mkL (n := deep.toNat + 1) fun u hu => ?_
        rcases List.mem_cons.mp hu with z | z
        · rw [z]
          exact gd5.dp.le (by omega)
        · rw [List.mem_singleton.mp z]
          exact gd8.dp.le (by omega)
      · refine sc_mkL trivial fun i u hi => ?_
        match i, hi with
        | 0, hi =>
          cases (Option.some.inj hi)
          exact gd5.sc
        | 1, hi =>
          cases (Option.some.inj hi)
          exact gd8.sc
        | i + 2, hi => simp at hi
      · rw [lt_mkL, letsL_cons, letsL_cons, gd5.lt, gd8.lt]
        show [xl] ++ (ls5 ++ (ls8 ++ [])) = _
        rw [List.append_nil]
  · rintro σ' H2 ⟨s2, rfl⟩
    have g2 := g1.same s2
    have w2 := w1.but (but_same s2) g1.t
    have B2 : But2 tp wl H H2 := B1.trans (but2_same s2)
    have hx9 : wd = "let" ∨ wd = "if" ∨ wd = "plus" ∨ wd = "less" := by
      rcases hwd with z | z | z
      · exact absurd z nask
      · exact absurd z ntell
      · exact z
    refine ⟨_, rfl, _, rfl, _, _, rfl, rfl, sz (by show 2 ≤ 100000; decide), fun p3 hp3 => ?_⟩
    have s3 := same_new hp3 (.lst [.int 2, .int 3])
    have hm3 : ∃ m : Int, atI [V.int 2, .int 3] (if decide (V.str wd = V.str "if") = true then 1 else 0) = some (.int m) ∧ 2 ≤ m ∧ m ≤ 3 ∧ (wd = "if" → m = 3) ∧ (wd ≠ "if" → m = 2) := by
      by_cases c : wd = "if"
      · exact ⟨3, by rw [if_pos (decide_eq_true (congrArg V.str c))]; exact at1, by decide, by decide, fun _ => rfl, fun z => absurd c z⟩
      · exact ⟨2, by rw [if_neg (by rw [decide_eq_false fun z => c (V.str.inj z)]; exact Bool.false_ne_true)]; exact at0, by decide, by decide, fun z => absurd z c, fun _ => rfl⟩
    obtain ⟨m, hm0, hm1, hm2, hm4, hm5⟩ := hm3
    refine ⟨_, rfl, rfl, .inr ⟨_, rfl, p3, _, _, _, rfl, rfl, SqL.of upd_same, hm0, ?_⟩⟩
    refine ⟨tp, room - 1, m, rfl, g2.t.same s3, by omega, by omega, by omega, fun sh ss H4 b4 t4 hsh h4 hsl4 hs1 hsum => ?_⟩
    have g3 := g2.same s3
    have g4 := g3.one b4 t4
    have B4 : But2 tp wl H H4 := B2.trans ((but2_same s3).trans b4.two)
    have w4 := (w2.but (but_same s3) g2.t).but b4 g3.t
    obtain ⟨nht, nhw⟩ := g3.new hsh
    refine ⟨_, rfl, sh, rfl, ⟨_, SqL.of h4⟩, fun D hD => lc_list (K := K) (a := sh) (xs := ss.map V.int) (fun j H' => ∃ wsi, But2 tp wl H H' ∧ GS H' tp kd wl hF wsi ∧ Wls H' ar xs ∧ H' sh = some (.lst (ss.map V.int)) ∧ ∃ vs ts, ws = wsi ++ (letsL ts).reverse ∧ H' D = some (.lst vs) ∧ Stk H' vs ts ∧ ts.length = j ∧ (∀ t ∈ ts, okT t ∧ HtLe (deep.toNat + 1) t ∧ okS hF t xs) ∧ (cnts ts : Int) ≤ (ss.take j).sum) ?_ ?_ ?_ ?_⟩
    · have s5 := same_new hD (.lst [])
      exact ⟨ws, B4.trans (but2_same s5), g4.same s5, w4.but (but_same s5) g4.t, s5 _ _ h4, [], [], (List.append_nil ws).symm, upd_same, trivial, rfl, (fun _ z => nomatch z), by show (0 : Int) ≤ 0; decide⟩
    · rintro j H' _ ⟨_, _, _, _, h, _⟩
      exact SqL.of h
    · rintro j x H5 hx ⟨wsi, B5, g5, w5, h5, vs, ts, hws5, hD5, k5s, hlen, hts, hcn⟩
      rw [List.getElem?_map] at hx
      obtain ⟨z, hz, rfl⟩ : ∃ z, ss[j]? = some z ∧ V.int z = x := by
        cases e : ss[j]? with
        | none =>
          rw [e] at hx
          cases hx
        | some z =>
          rw [e] at hx
          exact ⟨z, rfl, Option.some.inj hx⟩
      have hzm := mem_of_get hz
      have hz1 := hs1 z hzm
      have hz2 := le_sum hs1 hzm
      have htake := sum_take hz
      obtain ⟨nDt, nDw⟩ := g4.new hD
      have hDsh : D ≠ sh := (ne_of_none h4 hD).symm
      have hDkd : D ≠ kd := by
        obtain ⟨_, _, _, _, kk, _⟩ := g4.k
        exact (ne_of_none kk hD).symm
      have hDar : ar ≠ D := ne_of_none w4.1 hD
      have hjl : j < ss.length := (List.getElem?_eq_some_iff.mp hz).1
      have hvl := k5s.len
      have hD0 : H D = none := by
        cases e : H D with
        | none => rfl
        | some o =>
          rw [B4 _ _ nDt nDw e] at hD
          cases hD
      refine ⟨rfl, ?_⟩
      dsimp only [tYes]
      refine iteT ?_
      refine ⟨_, rfl, _, rfl, _, rfl, _, rfl, _, rfl, _, _, rfl, rfl, tp, kd, wl, ar, hF, wsi, xs, z, deep - 1, rfl, g5, w5, naw, by omega, hz1, by omega, by omega, ndeep, fun a t ls H6 ws6 b6 e6 g6 gd6 => ?_⟩
      have h6D := b6 _ _ nDt nDw hD5
      have tk6 := g5.tk b6
      refine ⟨vs, h6D, Nat.lt_of_le_of_lt (m := 1000) (by omega) (by decide), ws6, (B5.trans b6).put hD0, ?_, ?_, ?_, vs ++ [.ref a], ts ++ [t], ?_, upd_same, ?_, ?_, ?_, ?_⟩
      · refine g6.put h6D nDt nDw hDkd (fun _ z => nomatch z) fun x zs z => ?_
        have e := HO.lst.inj z
        cases ts with
        | nil =>
          cases vs with
          | nil => cases e
          | cons _ _ => exact k5s.elim
        | cons t0 tr =>
          cases vs with
          | nil => cases e
          | cons v0 vr =>
            obtain ⟨⟨b0, e0', _⟩, _⟩ := k5s
            rw [e0'] at e
            cases (List.cons.inj e).1
      · have w6 := w5.two b6 g5 naw
        exact ⟨by rw [upd_ne hDar]; exact w6.1, w6.2⟩
      · rw [upd_ne hDsh.symm]
        exact b6 _ _ nht nhw h5
      · rw [hws5, e6, letsL_app, letsL_cons, gd6.lt, List.reverse_append, List.append_assoc]
        show _ = ws6 ++ ((ls ++ []).reverse ++ _)
        rw [List.append_nil]
      · exact ((k5s.tk tk6).app (us := [.ref a]) (ss := [t]) ⟨⟨a, rfl, gd6.at_⟩, trivial⟩).tk (tk_put h6D)
      · rw [List.length_append, hlen]
        rfl
      · exact stk_ok_app hts gd6.ok (gd6.dp.le (by omega)) gd6.sc
      · have c6 := gd6.cn
        rw [cnts_app, htake]
        show ((cnts ts + (cnt t + 0) : Nat) : Int) ≤ _
        omega
    · rintro H5 ⟨wsi, B5, g5, w5, h5, vs, ts, hws5, hD5, k5s, hlen, hts, hcn⟩
      rw [List.length_map] at hlen hcn
      rw [List.take_length] at hcn
      have hvl := k5s.len
      refine ⟨_, rfl, sz (by show 2 ≤ 100000; decide), fun p6 hp6 => ?_⟩
      have s6 := same_new hp6 (.lst [.str wd, .str "plus"])
      have hw6 : ∃ hx : Hd, atI [V.str wd, .str "plus"] (if decide (V.str wd = V.str "let") = true then 1 else 0) = some (.str (hs hx)) ∧ okH hx ∧ hdLets hx = [] ∧ (∀ nn ys, okN hF hx nn ys) ∧ (∀ ii ys, inn hx ii ys = ys) ∧ (∀ (H' : Hp) (p : Addr), H' p = some (.tup (.str (hs hx) :: vs)) → Lay H' p hx vs) := by
        rcases hx9 with z | z | z | z
        · subst z
          exact ⟨.plus, at1, trivial, rfl, fun _ _ => trivial, fun _ _ => rfl, fun H' p h => ⟨by rw [hvl, hlen]; have := hm5 (by decide); omega, h⟩⟩
        · subst z
          exact ⟨.iff, at0, trivial, rfl, fun _ _ => trivial, fun _ _ => rfl, fun H' p h => ⟨by rw [hvl, hlen]; have := hm4 rfl; omega, h⟩⟩
        · subst z
          exact ⟨.plus, at0, trivial, rfl, fun _ _ => trivial, fun _ _ => rfl, fun H' p h => ⟨by rw [hvl, hlen]; have := hm5 (by decide); omega, h⟩⟩
        · subst z
          exact ⟨.less, at0, trivial, rfl, fun _ _ => trivial, fun _ _ => rfl, fun H' p h => ⟨by rw [hvl, hlen]; have := hm5 (by decide); omega, h⟩⟩
      obtain ⟨hx, hxa, hxo, hxn, hxN, hxi, hxl⟩ := hw6
      refine ⟨_, rfl, rfl, .inr ⟨_, rfl, p6, _, _, _, rfl, rfl, SqL.of upd_same, hxa, sz (by show 1 ≤ 100000; decide), fun p7 hp7 => ?_⟩⟩
      have s7 := same_new hp7 (.tup [.str (hs hx)])
      have s67 := s6.trans s7
      refine ⟨_, rfl, D, _, rfl, .inl ⟨SqL.of (s67 _ _ hD5), fun p8 hp8 => ?_⟩⟩
      have s8 := same_new hp8 (.tup vs)
      have s68 := s67.trans s8
      refine catA_of (s8 _ _ upd_same) upd_same (by show 1 + vs.length ≤ 100000; omega) fun p9 H9 s9 h9 => ?_
      have s69 := s68.trans s9
      refine q p9 (mkL hx ts) (letsL ts) H9 wsi (B5.trans (but2_same s69)) hws5 (g5.same s69) ⟨?_, ?_, ?_, ?_, ?_, ?_⟩
      · exact at_mkL (hxl H9 p9 h9) (k5s.mono s69)
      · exact ok_mkL hxo fun t ht => (hts t ht).1
      · rw [cnt_mkL]
        omega
      · exact ht_mkL (n := deep.toNat + 1) fun t ht => (hts t ht).2.1
      · refine sc_mkL (hxN _ _) fun i t hi => ?_
        rw [hxi]
        exact (hts t (mem_of_get hi)).2.2
      · rw [lt_mkL, hxn]
        rfl
theorem no_term {f : Addr} {fd : FuncData} {k : Nat} : FnOk P w K mg base CX0 k f fd ["tape", "known", "around", "room", "deep"] (spTerm 0) := by
  have no : ∀ vs H Q E, ¬ spTerm 0 vs H Q E := fun vs H Q E h => by
    obtain ⟨tp, kd, wl, ar, hF, ws, xs, room, deep, _, _, _, _, _, _, _, _, h0, _⟩ := h
    omega
  exact ⟨fun vs H Q E h => absurd h (no vs H Q E), fun A outer s H args us vs Q E _ _ _ _ h => absurd h (no vs H Q E)⟩
theorem all_term (T : Txt K mg) {f fg fh fs_ fl_ fa : Addr} {fd gd hd sd ld ad : FuncData} (F : Fun K "_law_term" "_law_term" s_law_term f fd) (FA : Fun K "_law_ask" "_law_ask" s_law_ask fa ad)
    (G_law_digit : FnOk P w K mg base CX0 1 fg gd ["tape", "many"] spDig) (R_law_digit : Ref K mg "_law_digit" fg gd ["tape", "many"])
    (G_law_leaf : FnOk P w K mg base CX0 3 fh hd ["tape", "known", "around"] spLeaf) (R_law_leaf : Ref K mg "_law_leaf" fh hd ["tape", "known", "around"]) (G_law_shares : FnOk P w K mg base CX0 2 fs_ sd ["tape", "room", "many"] spShr) (R_law_shares : Ref K mg "_law_shares" fs_ sd ["tape", "room", "many"])
    (G_law_less_one : FnOk P w K mg base CX0 1 fl_ ld ["around"] spLess) (R_law_less_one : Ref K mg "_law_less_one" fl_ ld ["around"])
    (R_law_term : Ref K mg "_law_term" f fd ["tape", "known", "around", "room", "deep"]) (R_law_ask : Ref K mg "_law_ask" fa ad ["tape", "known", "around", "room", "deep"]) : ∀ n : Nat, FnOk P w K mg base CX0 (2 * n + 4) f fd ["tape", "known", "around", "room", "deep"] (spTerm n)
  | 0 => no_term
  | n + 1 => by
    have ih := all_term T F FA G_law_digit R_law_digit G_law_leaf R_law_leaf G_law_shares R_law_shares G_law_less_one R_law_less_one R_law_term R_law_ask n
    exact ok_term T F G_law_digit R_law_digit G_law_leaf R_law_leaf G_law_shares R_law_shares (ok_ask T FA G_law_digit R_law_digit G_law_leaf R_law_leaf G_law_shares R_law_shares G_law_less_one R_law_less_one ih R_law_term) R_law_ask ih R_law_term
end
end KB

namespace KB
open PySem L2

/-! ### the words that are drawn -/
def lettersS : Str := "abcdefghijklmnopqrstuvwxyz"
def sgn (i : Nat) : Str := ⟨#[97 + i % 26]⟩
def endsL : List Str := ["", "a", "omelons"]
def someL : List Str := ["give", "ask", "post", "plus", "less", "name", "number", "to", "as", "f", "x", "aq", "bq", "lets", "ifs", "ina", "homes", "q"]
def w0 (turn : Nat) (e : Str) (k : Nat) : Str := sgn (turn + k) ++ e
def w1 (turn : Nat) (k : Nat) : Str := repS (sgn (turn + k / 8)) (1 + (k : Int) % 8)
def w2 (turn : Nat) (k : Nat) : Str := someL.getD ((turn + k) % 18) ""
def good16 (f : Nat → Str) : Bool := ((List.range 16).map f).all isW && decide ((List.range 16).map f).Nodup
theorem good_w0 : ∀ turn < 26, ∀ e ∈ endsL, good16 (w0 turn e) = true := by decide +kernel
theorem good_w1 : ∀ turn < 26, good16 (w1 turn) = true := by decide +kernel
theorem good_w2 : ∀ turn < 26, good16 (w2 turn) = true := by decide +kernel
theorem good_of {f : Nat → Str} (h : good16 f = true) {n : Nat} (hn : n ≤ 16) : (∀ x ∈ (List.range n).map f, isW x = true) ∧ ((List.range n).map f).Nodup := by
  unfold good16 at h
  rw [Bool.and_eq_true] at h
  have hs : ((List.range n).map f).Sublist ((List.range 16).map f) := (List.range_sublist.mpr hn).map f
  exact ⟨fun x hx => List.all_eq_true.mp h.1 x (hs.subset hx), (of_decide_eq_true h.2).sublist hs⟩
theorem letters_at {i : Int} (h0 : 0 ≤ i) (h1 : i < 26) : atI lettersS.cps.toList i = some (97 + i.toNat) := by
  have e : lettersS.cps.toList = (List.range 26).map (97 + ·) := by decide +kernel
  rw [e]
  obtain ⟨n, rfl⟩ : ∃ n : Nat, i = (n : Int) := ⟨i.toNat, by omega⟩
  rw [Int.toNat_natCast]
  refine atI_nat ?_
  rw [List.getElem?_map, List.getElem?_range (by omega)]
  rfl
theorem range_push {f : Nat → Str} (i : Nat) : ((List.range i).map f).map V.str ++ [V.str (f i)] = ((List.range (i + 1)).map f).map V.str := by
  rw [List.range_succ, List.map_append, List.map_append]
  rfl

section
variable {P : Program} {w : World} {K : PySem.W.Frag} {mg : Str → Option Value} {base : Heap}
def spWords : Sp := fun vs H Q _ => ∃ (tp : Addr) (many : Int), vs = [.ref tp, .int many] ∧ Tp H tp ∧ 0 ≤ many ∧ many ≤ 16 ∧
  ∀ (p : Addr) (xs : List Str) (H' : Hp), But1 tp H H' → Tp H' tp → H p = none → Wls H' p xs → (xs.length : Int) = many → xs.Nodup → Q (.ref p) H'
abbrev s_law_words : Stmt := top 23
theorem scLwords : FnScope ["tape", "many", "letters", "way", "turn", "ends", "k", "some"] ["tape", "many"] (defScope s_law_words) := ⟨rfl, rfl, rfl, by decide +kernel, rfl, by decide +kernel, by decide +kernel⟩
theorem ok_words (T : Txt K mg) {f g : Addr} {fd gd : FuncData} (F : Fun K "_law_words" "_law_words" s_law_words f fd) (G_law_digit : FnOk P w K mg base CX0 1 g gd ["tape", "many"] spDig) (R_law_digit : Ref K mg "_law_digit" g gd ["tape", "many"]) : FnOk P w K mg base CX0 2 f fd ["tape", "many"] spWords := by
  refine F.ok scLwords (fun vs H Q E h => ?_) (fun cdv A outer s H vs Q E hr h => ?_)
  · obtain ⟨tp, many, rfl, _⟩ := h
    rfl
  obtain ⟨tp, many, rfl, ht, hm0, hm1, q⟩ := h
  refine ⟨_, (pss_cons (ps_set (i := 2) scLwords.nd rfl (Or.inr rfl) pe_str)
    (pss_cons (ps_set (i := 3) scLwords.nd rfl (Or.inl rfl) (pe_call G_law_digit hr rfl R_law_digit.m R_law_digit.k R_law_digit.b .nil pass0 (pa_cons (pv 0) (pa_cons pe_int pa_nil))))
    (pss_cons (ps_set (i := 4) scLwords.nd rfl (Or.inr rfl) (pe_call G_law_digit hr rfl R_law_digit.m R_law_digit.k R_law_digit.b .nil pass0 (pa_cons (pv 0) (pa_cons pe_int pa_nil))))
    (pss_cons (ps_if (pt_cmpR op_eq (pv 3) pe_int (nomark _)) (pss_cons (ps_set (i := 5) scLwords.nd rfl (Or.inr rfl) (pe_ix ix_list (pe_lst (pa_cons pe_str (pa_cons pe_str (pa_cons pe_str pa_nil)))) (pe_call G_law_digit hr rfl R_law_digit.m R_law_digit.k R_law_digit.b .nil pass0 (pa_cons (pv 0) (pa_cons pe_int pa_nil))) (fun _ _ => rfl)))
    (pss_one (ps_ret (pe_lc (own := [("k", 6)]) (g := gName 6) (by rfl) scLwords.nd (pi_range1 rfl T.m_range (pa_cons (pv 1) pa_nil)) (blkOk_by (own := [("k", 6)]) (N := ["tape", "many", "letters", "way", "turn", "ends", "k", "some"]) (sc := defScope s_law_words) (by decide +kernel)) (fun _ _ _ _ _ => (pg_name (i := 6) scLwords.nd rfl (Or.inl rfl))) (fun _ _ _ _ _ => pts_nil) (fun _ _ _ _ _ => (pe_op op_add_str (pe_ix ix_str (pv 2) (pe_op op_mod (pe_op op_add (pv 4) (pv 6)) pe_int) (fun _ _ => rfl)) (pv 5))))))) pss_nil)
    (pss_cons (ps_if (pt_cmpR op_eq (pv 3) pe_int (nomark _)) (pss_one (ps_ret (pe_lc (own := [("k", 6)]) (g := gName 6) (by rfl) scLwords.nd (pi_range1 rfl T.m_range (pa_cons (pv 1) pa_nil)) (blkOk_by (own := [("k", 6)]) (N := ["tape", "many", "letters", "way", "turn", "ends", "k", "some"]) (sc := defScope s_law_words) (by decide +kernel)) (fun _ _ _ _ _ => (pg_name (i := 6) scLwords.nd rfl (Or.inl rfl))) (fun _ _ _ _ _ => pts_nil) (fun _ _ _ _ _ => (pe_op op_mul_str (pe_ix ix_str (pv 2) (pe_op op_mod (pe_op op_add (pv 4) (pe_op op_fdiv (pv 6) pe_int)) pe_int) (fun _ _ => rfl)) (pe_op op_add pe_int (pe_op op_mod (pv 6) pe_int))))))) pss_nil)
    (pss_cons (ps_set (i := 7) scLwords.nd rfl (Or.inr rfl) (pe_lst (pa_cons pe_str (pa_cons pe_str (pa_cons pe_str (pa_cons pe_str (pa_cons pe_str (pa_cons pe_str (pa_cons pe_str (pa_cons pe_str (pa_cons pe_str (pa_cons pe_str (pa_cons pe_str pa_nil)))))))))))))
    (pss_cons (ps_set (i := 7) scLwords.nd rfl (Or.inr rfl) (pe_op op_cat (pv 7) (pe_lst (pa_cons pe_str (pa_cons pe_str (pa_cons pe_str (pa_cons pe_str (pa_cons pe_str (pa_cons pe_str (pa_cons pe_str pa_nil))))))))))
    (pss_one (ps_ret (pe_lc (own := [("k", 6)]) (g := gName 6) (te := tOp (rIxL K) (tVar 7) (tOp (rI (fun _ j => 0 < j) fun i j => .int (i % j)) (tOp (rI0 fun i j => .int (i + j)) (tVar 4) (tVar 6)) (tC (.int 18)))) (by rfl) scLwords.nd (pi_range1 rfl T.m_range (pa_cons (pv 1) pa_nil)) (blkOk_by (own := [("k", 6)]) (N := ["tape", "many", "letters", "way", "turn", "ends", "k", "some"]) (sc := defScope s_law_words) (by decide +kernel)) (fun _ _ _ _ _ => (pg_name (i := 6) scLwords.nd rfl (Or.inl rfl))) (fun _ _ _ _ _ => pts_nil) (fun _ _ _ _ _ => (pe_ix ix_list (pv 7) (pe_op op_mod (pe_op op_add (pv 4) (pv 6)) pe_int) (fun _ _ => rfl))))))))))))), ?_⟩
  have fin : ∀ (f : Nat → Str), good16 f = true → ∀ (H1 : Hp) (D : Addr) (H' : Hp), But1 tp H H1 → Tp H1 tp → H1 D = none → Same H1 H' → H' D = some (.lst (((List.range many.toNat).map f).map V.str)) → Q (.ref D) H' := by
    intro f hf H1 D H' b1 t1 hD s1 h1
    obtain ⟨e1, e2⟩ := good_of hf (n := many.toNat) (by omega)
    refine q D _ H' (b1.trans (but_same s1)) (t1.same s1) ?_ ⟨h1, e1⟩ (by rw [List.length_map, List.length_range]; omega) e2
    cases e : H D with
    | none => rfl
    | some o =>
      obtain ⟨z, hz⟩ := t1
      rw [b1 _ _ (ne_of_none hz hD).symm e] at hD
      cases hD
  refine ⟨_, rfl, tp, 3, rfl, ht, by decide, by decide, fun way H1 _ _ b1 t1 => ?_⟩
  refine ⟨_, rfl, tp, 26, rfl, t1, by decide, by decide, fun turn H2 r0 r1 b2 t2 => ?_⟩
  have b12 := b1.trans b2
  refine ⟨_, rfl, rfl, _, rfl, ?_⟩
  refine ite2 (fun c1 => ?_) (fun c1 => ?_)
  · refine ⟨sz (by show 3 ≤ 100000; decide), fun p hp => ?_⟩
    have s3 := same_new hp (.lst [.str "", .str "a", .str "omelons"])
    have np : p ≠ tp := by
      obtain ⟨z, hz⟩ := t2
      exact (ne_of_none hz hp).symm
    refine ⟨_, rfl, tp, 3, rfl, t2.same s3, by decide, by decide, fun r H3 r2 r3 b3 t3 => ?_⟩
    obtain ⟨v, hv, hm⟩ := at_some (xs := endsL.map V.str) r2 r3
    obtain ⟨e, he, rfl⟩ := List.mem_map.mp hm
    have hel : e.length ≤ 100 := by
      have : ∀ x ∈ endsL, x.length ≤ 100 := by decide +kernel
      exact this e he
    refine ⟨p, _, _, _, rfl, rfl, SqL.of (b3 _ _ np upd_same), hv, ?_⟩
    have b4 := (b12.trans (but_same s3)).trans b3
    refine ⟨_, rfl, many, rfl, by omega, by omega, fun D hD => lc_range (lo := 0) (n := many.toNat) (fun i H' => Same H3 H' ∧ H' D = some (.lst (((List.range i).map (w0 turn.toNat e)).map V.str))) ⟨same_new hD _, upd_same⟩ ?_ ?_⟩
    · rintro i H' hi ⟨s5, h5⟩
      have ei : (turn + (0 + (i : Nat))) % 26 = (((turn.toNat + i) % 26 : Nat) : Int) := by omega
      refine ⟨rfl, ?_⟩
      dsimp only [tYes]
      refine iteT ?_
      refine ⟨_, rfl, _, rfl, _, rfl, _, _, rfl, rfl, _, _, rfl, rfl, (by show (0 : Int) < 26; decide), lettersS, _, _, rfl, rfl, (by decide +kernel), letters_at (Int.emod_nonneg _ (by decide)) (Int.emod_lt_of_pos _ (by decide)), ?_⟩
      refine ⟨_, rfl, _, _, rfl, rfl, sz (by show 1 + e.length ≤ 100000; omega), ?_⟩
      refine ⟨_, h5, Nat.lt_of_le_of_lt (m := 100) (by rw [List.length_map, List.length_map, List.length_range]; omega) (by decide), same_mut s5 hD, ?_⟩
      rw [upd_same, ← range_push]
      have e9 : w0 turn.toNat e i = (⟨#[97 + ((turn + (0 + (i : Nat))) % 26).toNat]⟩ : Str) ++ e := by
        rw [ei, Int.toNat_natCast]
        rfl
      rw [e9]
    · rintro H' ⟨s5, h5⟩
      exact fin _ (good_w0 turn.toNat (by omega) e he) H3 D H' b4 t3 hD s5 h5
  refine ⟨_, rfl, rfl, _, rfl, ?_⟩
  refine ite2 (fun c2 => ?_) (fun c2 => ?_)
  · refine ⟨_, rfl, many, rfl, by omega, by omega, fun D hD => lc_range (lo := 0) (n := many.toNat) (fun i H' => Same H2 H' ∧ H' D = some (.lst (((List.range i).map (w1 turn.toNat)).map V.str))) ⟨same_new hD _, upd_same⟩ ?_ ?_⟩
    · rintro i H' hi ⟨s5, h5⟩
      have ei : (turn + (0 + (i : Nat)) / 8) % 26 = (((turn.toNat + i / 8) % 26 : Nat) : Int) := by omega
      refine ⟨rfl, ?_⟩
      dsimp only [tYes]
      refine iteT ?_
      refine ⟨_, rfl, _, rfl, _, rfl, _, _, rfl, rfl, ⟨by decide, by decide⟩, _, _, rfl, rfl, _, _, rfl, rfl, (by show (0 : Int) < 26; decide), lettersS, _, _, rfl, rfl, (by decide +kernel), letters_at (Int.emod_nonneg _ (by decide)) (Int.emod_lt_of_pos _ (by decide)), ?_⟩
      refine ⟨_, rfl, _, _, rfl, rfl, (by show (0 : Int) < 8; decide), _, _, rfl, rfl, _, _, rfl, rfl, by omega, by omega, Nat.le_refl 1, by show 1 ≤ 1000; decide, ?_⟩
      refine ⟨_, h5, Nat.lt_of_le_of_lt (m := 100) (by rw [List.length_map, List.length_map, List.length_range]; omega) (by decide), same_mut s5 hD, ?_⟩
      rw [upd_same, ← range_push]
      have e9 : w1 turn.toNat i = repS (⟨#[97 + ((turn + (0 + (i : Nat)) / 8) % 26).toNat]⟩ : Str) (1 + (0 + (i : Nat)) % 8) := by
        rw [ei, Int.toNat_natCast, Int.zero_add]
        rfl
      rw [e9]
    · rintro H' ⟨s5, h5⟩
      exact fin _ (good_w1 turn.toNat (by omega)) H2 D H' b12 t2 hD s5 h5
  · refine ⟨sz (by show 11 ≤ 100000; decide), fun p1 hp1 => ?_⟩
    have s3 := same_new hp1 (.lst ((someL.take 11).map V.str))
    refine ⟨_, rfl, sz (by show 7 ≤ 100000; decide), fun p2 hp2 => ?_⟩
    have s4 := same_new hp2 (.lst ((someL.drop 11).map V.str))
    refine ⟨p1, p2, (someL.take 11).map V.str, (someL.drop 11).map V.str, rfl, rfl, s4 _ _ upd_same, upd_same, sz (by show 18 ≤ 100000; decide), fun p3 hp3 => ?_⟩
    have s5 := same_new hp3 (.lst ((someL.take 11).map V.str ++ (someL.drop 11).map V.str))
    have s35 := s3.trans (s4.trans s5)
    have h3 : upd (upd (upd H2 p1 (.lst ((someL.take 11).map V.str))) p2 (.lst ((someL.drop 11).map V.str))) p3 (.lst ((someL.take 11).map V.str ++ (someL.drop 11).map V.str)) p3 = some (.lst (someL.map V.str)) := upd_same
    have t3 := t2.same s35
    have b3 := b12.trans (but_same s35)
    refine ⟨_, rfl, many, rfl, by omega, by omega, fun D hD => lc_range (lo := 0) (n := many.toNat) (fun i H' => Same (upd (upd (upd H2 p1 (.lst ((someL.take 11).map V.str))) p2 (.lst ((someL.drop 11).map V.str))) p3 (.lst ((someL.take 11).map V.str ++ (someL.drop 11).map V.str))) H' ∧ H' D = some (.lst (((List.range i).map (w2 turn.toNat)).map V.str))) ⟨same_new hD _, upd_same⟩ ?_ ?_⟩
    · rintro i H' hi ⟨s6, h6⟩
      have ei : (turn + (0 + (i : Nat))) % 18 = (((turn.toNat + i) % 18 : Nat) : Int) := by omega
      have hat : atI (someL.map V.str) ((turn + (0 + (i : Nat))) % 18) = some (V.str (w2 turn.toNat i)) := by
        rw [ei]
        refine atI_nat ?_
        rw [List.getElem?_map]
        unfold w2
        have hl : (turn.toNat + i) % 18 < someL.length := Nat.mod_lt _ (by decide)
        rw [List.getElem?_eq_getElem hl, List.getD_eq_getElem?_getD, List.getElem?_eq_getElem hl]
        rfl
      refine ⟨rfl, ?_⟩
      dsimp only [tYes]
      refine iteT ?_
      refine ⟨_, rfl, _, rfl, _, rfl, _, _, rfl, rfl, _, _, rfl, rfl, (by show (0 : Int) < 18; decide), p3, _, _, _, rfl, rfl, SqL.of (s6 _ _ h3), hat, ?_⟩
      refine ⟨_, h6, Nat.lt_of_le_of_lt (m := 100) (by rw [List.length_map, List.length_map, List.length_range]; omega) (by decide), same_mut s6 hD, ?_⟩
      rw [upd_same, ← range_push]
    · rintro H' ⟨s6, h6⟩
      exact fin _ (good_w2 turn.toNat (by omega)) _ D H' b3 t3 hD s6 h6
end
end KB

namespace KB
open PySem L2

section
variable {P : Program} {w : World} {K : PySem.W.Frag} {mg : Str → Option Value} {base : Heap}
/-! ### _law_body -/
def spBody : Sp := fun vs H Q _ => ∃ (tp kd wl nl : Addr) (hF : Str → Option Nat) (ws xs : List Str) (room : Int), vs = [.ref tp, .ref kd, .ref nl, .int room] ∧ GS H tp kd wl hF ws ∧ Wls H nl xs ∧ nl ≠ wl ∧ xs.length ≤ 100 ∧ 8 ≤ room ∧ room ≤ 40 ∧
  ∀ a t ls H' ws', But2 tp wl H H' → ws = ws' ++ List.reverse ls → GS H' tp kd wl hF ws' → Gd H' a room.toNat 13 hF xs ls t → Q (.ref a) H'
abbrev s_law_body : Stmt := top 30
theorem scLbody : FnScope ["tape", "known", "names", "room", "shares", "one"] ["tape", "known", "names", "room"] (defScope s_law_body) := ⟨rfl, rfl, rfl, by decide +kernel, rfl, by decide +kernel, by decide +kernel⟩
theorem ok_body (T : Txt K mg) {f fg fs_ ft : Addr} {fd gd sd td : FuncData} (F : Fun K "_law_body" "_law_body" s_law_body f fd) (G_law_digit : FnOk P w K mg base CX0 1 fg gd ["tape", "many"] spDig) (R_law_digit : Ref K mg "_law_digit" fg gd ["tape", "many"])
    (G_law_shares : FnOk P w K mg base CX0 2 fs_ sd ["tape", "room", "many"] spShr) (R_law_shares : Ref K mg "_law_shares" fs_ sd ["tape", "room", "many"])
    (G_law_term : FnOk P w K mg base CX0 28 ft td ["tape", "known", "around", "room", "deep"] (spTerm 12)) (R_law_term : Ref K mg "_law_term" ft td ["tape", "known", "around", "room", "deep"]) : FnOk P w K mg base CX0 29 f fd ["tape", "known", "names", "room"] spBody := by
  refine F.ok scLbody (fun vs H Q E h => ?_) (fun cdv A outer s H vs Q E hr h => ?_)
  · obtain ⟨tp, kd, wl, nl, hF, ws, xs, room, rfl, _⟩ := h
    rfl
  obtain ⟨tp, kd, wl, nl, hF, ws, xs, room, rfl, hg, hw, nnw, hx, hr1, hr2, q⟩ := h
  refine ⟨_, (pss_cons (ps_if (PW.pt (pw_and (pt_cmpR (op_neD hr.units) (pv 2) (pe_lst pa_nil) (nomark _)) (pw_and1 (pt_cmpR op_gt (pe_call G_law_digit (hr.mono (by omega)) rfl R_law_digit.m R_law_digit.k R_law_digit.b .nil pass0 (pa_cons (pv 0) (pa_cons pe_int pa_nil))) pe_int (nomark _))))) (pss_cons (ps_set (i := 4) scLbody.nd rfl (Or.inl rfl) (pe_call G_law_shares (hr.mono (by omega)) rfl R_law_shares.m R_law_shares.k R_law_shares.b .nil pass0 (pa_cons (pv 0) (pa_cons (pe_op op_sub (pv 3) pe_int) (pa_cons pe_int pa_nil)))))
    (pss_cons (ps_set (i := 5) scLbody.nd rfl (Or.inl rfl) (pe_call G_law_term hr rfl R_law_term.m R_law_term.k R_law_term.b .nil pass0 (pa_cons (pv 0) (pa_cons (pv 1) (pa_cons (pv 2) (pa_cons (pe_ix ix_list (pv 4) pe_int (fun _ _ => rfl)) (pa_cons pe_int pa_nil)))))))
    (pss_one (ps_ret (pe_tup (pa_cons pe_str (pa_cons (pe_tup (pa_cons pe_str (pa_cons (pe_ix ix_list (pv 2) pe_int (fun _ _ => rfl)) pa_nil))) (pa_cons (pv 5) (pa_cons (pe_call G_law_term hr rfl R_law_term.m R_law_term.k R_law_term.b .nil pass0 (pa_cons (pv 0) (pa_cons (pv 1) (pa_cons (pv 2) (pa_cons (pe_ix ix_list (pv 4) pe_int (fun _ _ => rfl)) (pa_cons pe_int pa_nil)))))) pa_nil))))))))) pss_nil)
    (pss_one (ps_ret (pe_call G_law_term hr rfl R_law_term.m R_law_term.k R_law_term.b .nil pass0 (pa_cons (pv 0) (pa_cons (pv 1) (pa_cons (pv 2) (pa_cons (pv 3) (pa_cons pe_int pa_nil))))))))), ?_⟩
  have termW : ∀ H1, But2 tp wl H H1 → GS H1 tp kd wl hF ws → Wls H1 nl xs → (tRet (tCall (spTerm 12) [] E0 (tCons (tVar 0) (tCons (tVar 1) (tCons (tVar 2) (tCons (tVar 3) (tCons (tC (.int 11)) tNil))))))) { nx := fun x H' => Q V.non H', rt := Q } [some (.ref tp), some (.ref kd), some (.ref nl), some (.int room), none, none] H1 := by
    intro H1 b1 g1 w1
    refine ⟨_, rfl, _, rfl, _, rfl, _, rfl, tp, kd, wl, nl, hF, ws, xs, room, 11, rfl, g1, w1, nnw, by omega, by omega, by omega, by decide, by decide, fun a t ls H2 ws2 b2 e2 g2 gd => ?_⟩
    exact q a t ls H2 ws2 (b1.trans b2) e2 g2 (gd.le (Nat.le_refl _) (by decide))
  refine ⟨_, rfl, sz (by show 0 ≤ 100000; decide), fun p0 hp0 => ?_⟩
  have s0 := same_new hp0 (.lst [])
  have g0 := hg.same s0
  have w0 := hw.but (but_same s0) hg.t
  refine ⟨.list (xs.map PyData.str), .list [], .lst (SqL.of w0.1) (dp_strs xs), .lst (SqL.of upd_same) .nil, shaped_strs hw.2, rfl, _, rfl, ?_⟩
  rw [eqv_nil]
  cases xs with
  | nil => exact iteF (termW _ (but2_same s0) g0 w0)
  | cons x0 xr =>
    refine iteT ⟨_, rfl, tp, 4, rfl, g0.t, by decide, by decide, fun r H1 _ _ b1 t1 => ?_⟩
    have g1 := g0.one b1 t1
    have w1 := w0.but b1 g0.t
    have B1 : But2 tp wl H H1 := (but2_same s0).trans b1.two
    refine ⟨_, _, rfl, rfl, _, rfl, ?_⟩
    refine ite2 (fun c => ?_) (fun c => ?_)
    · refine ⟨_, rfl, _, rfl, _, _, rfl, rfl, tp, room - 2, 2, rfl, g1.t, by decide, by omega, by omega, fun sh ss H4 b4 t4 hsh h4 hsl4 hs1 hsum => ?_⟩
      obtain ⟨y0, y1, rfl⟩ := sum2 (xs := ss) (by omega)
      have hx0 := hs1 y0 List.mem_cons_self
      have hx1 := hs1 y1 (List.mem_cons_of_mem _ List.mem_cons_self)
      have esum : y0 + y1 ≤ room - 2 := by
        have e : [y0, y1].sum = y0 + (y1 + 0) := rfl
        omega
      have g4 := g1.one b4 t4
      have w4 := w1.but b4 g1.t
      obtain ⟨nht, nhw⟩ := g1.new hsh
      refine ⟨_, rfl, _, rfl, _, rfl, _, rfl, sh, _, _, _, rfl, rfl, SqL.of h4, at0, tp, kd, wl, nl, hF, ws, x0 :: xr, y0, 10, rfl, g4, w4, nnw, by omega, by omega, by omega, by decide, by decide, fun a5 t5 ls5 H5 ws5 b5 e5 g5 gd5 => ?_⟩
      have w5 := w4.two b5 g4 nnw
      have h5 := b5 _ _ nht nhw h4
      refine ⟨_, rfl, nl, _, _, _, rfl, rfl, SqL.of w5.1, at0, sz (by show 2 ≤ 100000; decide), fun p6 hp6 => ?_⟩
      have s6 := same_new hp6 (.tup [.str "name", .str x0])
      have g6 := g5.same s6
      have w6 := w5.but (but_same s6) g5.t
      refine ⟨_, rfl, _, rfl, _, rfl, _, rfl, _, rfl, sh, _, _, _, rfl, rfl, SqL.of (s6 _ _ h5), at1, tp, kd, wl, nl, hF, ws5, x0 :: xr, y1, 10, rfl, g6, w6, nnw, by omega, by omega, by omega, by decide, by decide, fun a8 t8 ls8 H8 ws8 b8 e8 g8 gd8 => ?_⟩
      refine ⟨sz (by show 4 ≤ 100000; decide), fun p9 hp9 => ?_⟩
      have s9 := same_new hp9 (.tup [.str "if", .ref p6, .ref a5, .ref a8])
      have tk68 := (g6.tk b8).trans (tk_same s9)
      have tk59 := (tk_same s6).trans tk68
      have l6 : Lay _ p6 (.nam x0) [] := ⟨rfl, tk68 _ _ upd_same⟩
      have gl := gd_nam (hd := hF) (xs := x0 :: xr) l6 (hw.2 x0 List.mem_cons_self) List.mem_cons_self
      refine q p9 (mkL .iff [mkL (.nam x0) [], t5, t8]) (ls5 ++ ls8) _ ws8 (B1.trans (b4.two.trans (b5.trans ((but2_same s6).trans (b8.trans (but2_same s9)))))) (by rw [e5, e8]; simp) (g8.same s9) ⟨?_, ?_, ?_, ?_, ?_, ?_⟩
      · exact at_mkL (vs := [.ref p6, .ref a5, .ref a8]) ⟨rfl, upd_same⟩ ⟨⟨p6, rfl, gl.at_⟩, ⟨a5, rfl, gd5.at_.tk tk59⟩, ⟨a8, rfl, gd8.at_.mono s9⟩, trivial⟩
      · refine ok_mkL trivial fun u hu => ?_
        rcases List.mem_cons.mp hu with z | z
        · rw [z]
          exact gl.ok
        · rcases List.mem_cons.mp z with z | z
          · rw [z]
            exact gd5.ok
          · rw [List.mem_singleton.mp z]
            exact gd8.ok
      · have c5 := gd5.cn
        have c8 := gd8.cn
        have c6 := gl.cn
        rw [cnt_mkL]
        show 1 + (cnt (mkL (.nam x0) []) + (cnt t5 + (cnt t8 + 0))) ≤ _
        omega
      · refine ht_mkL (n := 12) fun u hu => ?_
        rcases List.mem_cons.mp hu with z | z
        · rw [z]
          exact gl.dp.le (by decide)
        · rcases List.mem_cons.mp z with z | z
          · rw [z]
            exact gd5.dp.le (by decide)
          · rw [List.mem_singleton.mp z]
            exact gd8.dp.le (by decide)
      · refine sc_mkL trivial fun i u hi => ?_
        match i, hi with
        | 0, hi =>
          cases (Option.some.inj hi)
          exact gl.sc
        | 1, hi =>
          cases (Option.some.inj hi)
          exact gd5.sc
        | 2, hi =>
          cases (Option.some.inj hi)
          exact gd8.sc
        | i + 3, hi => simp at hi
      · rw [lt_mkL, letsL_cons, letsL_cons, letsL_cons, gl.lt, gd5.lt, gd8.lt]
        show [] ++ ([] ++ (ls5 ++ (ls8 ++ []))) = _
        rw [List.append_nil]
        rfl
    · exact termW _ B1 g1 w1

/-! ### _law_book -/
/-- a book that is good -/
structure GdE (hF : Str → Option Nat) (e : Er) : Prop where
  w : isW e.1 = true
  ws : ∀ x ∈ e.2.1, isW x = true
  n4 : e.2.1.length ≤ 4
  ok : okT e.2.2
  cn : cnt e.2.2 ≤ 40
  dp : HtLe 13 e.2.2
  hf : hF e.1 = some e.2.1.length
  sc : okS hF e.2.2 e.2.1
  un : (e.2.1 ++ letsOf e.2.2).Nodup
structure GdB (es : List Er) : Prop where
  len : 1 ≤ es.length ∧ es.length ≤ 6
  nd : (es.map (·.1)).Nodup
  er : ∃ hF : Str → Option Nat, (∀ e ∈ es, GdE hF e) ∧ ∀ f n, hF f = some n → f ∈ es.map (·.1)
def hFof (fs : List Str) (kvs : List (Key × V)) (f : Str) : Option Nat :=
  if f ∈ fs then (match valV kvs (Sum.inr f) with | some (.int n) => some n.toNat | _ => none) else none
theorem hFof_at {fs : List Str} {kvs : List (Key × V)} {f : Str} {n : Int} (h : f ∈ fs) (e : valV kvs (Sum.inr f) = some (.int n)) : hFof fs kvs f = some n.toNat := by
  unfold hFof
  rw [if_pos h, e]
theorem hFof_in {fs : List Str} {kvs : List (Key × V)} {f : Str} {n : Nat} (h : hFof fs kvs f = some n) : f ∈ fs := by
  unfold hFof at h
  by_cases c : f ∈ fs
  · exact c
  · rw [if_neg c] at h
    cases h
def spBook (K : PySem.W.Frag) : Sp := fun vs H Q _ => ∃ (sc : Addr) (ns : List Int) (start : Int), vs = [.ref sc, .int start] ∧ SqL K H sc (ns.map V.int) ∧ 0 ≤ start ∧ start ≤ 100 ∧ ∀ p es us H', Same H H' → BkAt H' es us p → GdB es → Q (.ref p) H'
abbrev s_law_book : Stmt := top 31
theorem scLbook : FnScope ["script", "start", "head", "errands", "heads", "f", "room", "found", "k", "tape", "words", "names", "known"] ["script", "start"] (defScope s_law_book) := ⟨rfl, rfl, rfl, by decide +kernel, rfl, by decide +kernel, by decide +kernel⟩
theorem merge_kn (el hd wl : Addr) : mergeK [] (knD el hd wl) = knD el hd wl := by
  have e1 : ¬ ((Sum.inr "errands" : Key) = (Sum.inr "heads" : Key)) := by decide +kernel
  have e2 : ¬ ((Sum.inr "errands" : Key) = (Sum.inr "words" : Key)) := by decide +kernel
  have e3 : ¬ ((Sum.inr "heads" : Key) = (Sum.inr "words" : Key)) := by decide +kernel
  unfold mergeK knD
  simp [putK, e1, e2, e3]
theorem cut_to {xs : List V} {i : Int} (h0 : 0 ≤ i) (h : i.toNat ≤ xs.length) : cutV xs none (some i) = xs.take i.toNat := by
  unfold cutV
  rw [sIx_no, sIx_at h0 h, List.drop_zero, Nat.sub_zero]
theorem ok_book (T : Txt K mg) {f fg ft fw fb : Addr} {fd gd td wd bd : FuncData} (F : Fun K "_law_book" "_law_book" s_law_book f fd) (G_law_digit : FnOk P w K mg base CX0 1 fg gd ["tape", "many"] spDig) (R_law_digit : Ref K mg "_law_digit" fg gd ["tape", "many"])
    (G_law_tape : FnOk P w K mg base CX0 2 ft td ["script", "k"] (spTape K)) (R_law_tape : Ref K mg "_law_tape" ft td ["script", "k"]) (G_law_words : FnOk P w K mg base CX0 2 fw wd ["tape", "many"] spWords) (R_law_words : Ref K mg "_law_words" fw wd ["tape", "many"])
    (G_law_body : FnOk P w K mg base CX0 29 fb bd ["tape", "known", "names", "room"] spBody) (R_law_body : Ref K mg "_law_body" fb bd ["tape", "known", "names", "room"]) : FnOk P w K mg base CX0 30 f fd ["script", "start"] (spBook K) := by
  refine F.ok scLbook (fun vs H Q E h => ?_) (fun cdv A outer s H vs Q E hr h => ?_)
  · obtain ⟨sc, ns, start, rfl, _⟩ := h
    rfl
  obtain ⟨sc, ns, start, rfl, hS, hst0, hst1, q⟩ := h
  refine ⟨_, (pss_cons (ps_set (i := 2) scLbook.nd rfl (Or.inl rfl) (pe_call G_law_tape (hr.mono (by omega)) rfl R_law_tape.m R_law_tape.k R_law_tape.b .nil pass0 (pa_cons (pv 0) (pa_cons (pv 1) pa_nil))))
    (pss_cons (ps_set (i := 3) scLbook.nd rfl (Or.inl rfl) (pe_call G_law_words (hr.mono (by omega)) rfl R_law_words.m R_law_words.k R_law_words.b .nil pass0 (pa_cons (pv 2) (pa_cons (pe_ix ix_list (pe_lst (pa_cons pe_int (pa_cons pe_int (pa_cons pe_int (pa_cons pe_int (pa_cons pe_int (pa_cons pe_int pa_nil))))))) (pe_call G_law_digit (hr.mono (by omega)) rfl R_law_digit.m R_law_digit.k R_law_digit.b .nil pass0 (pa_cons (pv 2) (pa_cons pe_int pa_nil))) (fun _ _ => rfl)) pa_nil))))
    (pss_cons (ps_set (i := 4) scLbook.nd rfl (Or.inl rfl) pe_dnewK)
    (pss_cons (ps_for PassesOwn.never rfl (pi_list (pv 3)) (pg_name (i := 5) scLbook.nd rfl (Or.inl rfl)) (pss_one (ps_dput (hu_of hr) (pv 4) (pv 5) (pe_ix ix_list (pe_lst (pa_cons pe_int (pa_cons pe_int (pa_cons pe_int (pa_cons pe_int (pa_cons pe_int (pa_cons pe_int pa_nil))))))) (pe_call G_law_digit (hr.mono (by omega)) rfl R_law_digit.m R_law_digit.k R_law_digit.b .nil pass0 (pa_cons (pv 2) (pa_cons pe_int pa_nil))) (fun _ _ => rfl)) rfl)))
    (pss_cons (ps_set (i := 6) scLbook.nd rfl (Or.inl rfl) (pe_ix ix_list (pe_lst (pa_cons pe_int (pa_cons pe_int (pa_cons pe_int (pa_cons pe_int pa_nil))))) (pe_call G_law_digit (hr.mono (by omega)) rfl R_law_digit.m R_law_digit.k R_law_digit.b .nil pass0 (pa_cons (pv 2) (pa_cons pe_int pa_nil))) (fun _ _ => rfl)))
    (pss_cons (ps_set (i := 7) scLbook.nd rfl (Or.inl rfl) (pe_lst pa_nil))
    (pss_cons (ps_for PassesOwn.never rfl (pi_range1 rfl T.m_range (pa_cons (pe_callB call_len_seq (by rfl) T.m_len PySem.boot_len (pa_cons (pv 3) pa_nil)) pa_nil)) (pg_name (i := 8) scLbook.nd rfl (Or.inl rfl)) (pss_cons (ps_set (i := 9) scLbook.nd rfl (Or.inl rfl) (pe_call G_law_tape (hr.mono (by omega)) rfl R_law_tape.m R_law_tape.k R_law_tape.b .nil pass0 (pa_cons (pv 0) (pa_cons (pe_op op_add (pe_op op_add (pv 1) pe_int) (pv 8)) pa_nil))))
    (pss_cons (ps_set (i := 10) scLbook.nd rfl (Or.inl rfl) (pe_call G_law_words (hr.mono (by omega)) rfl R_law_words.m R_law_words.k R_law_words.b .nil pass0 (pa_cons (pv 9) (pa_cons pe_int pa_nil))))
    (pss_cons (ps_set (i := 11) scLbook.nd rfl (Or.inl rfl) (pe_slice sl_list (pv 10) po_none (po_some (pe_dget (hu_of hr) (pv 4) (pe_ix ix_list (pv 3) (pv 8) (fun _ _ => rfl)) (fun _ _ => rfl)))))
    (pss_cons (ps_set (i := 12) scLbook.nd rfl (Or.inl rfl) (pe_disp (pps_cons pe_str (pv 3) (pps_cons pe_str (pv 4) (pps_cons pe_str (pe_slice sl_list (pv 10) (po_some (pe_callB call_len_seq (by rfl) T.m_len PySem.boot_len (pa_cons (pv 11) pa_nil))) po_none) pps_nil))) (by rfl) (by rfl) (fun z => by cases z) (by decide)))
    (pss_one (ps_expr (pe_bm PySem.F.plainAttrs_list PySem.F.slot_list_append PySem.F.type_list_append mt_append (pv 7) (pa_cons (pe_tup (pa_cons (pe_ix ix_list (pv 3) (pv 8) (fun _ _ => rfl)) (pa_cons (pe_callTy call_tuple_of (by rfl) T.m_tuple (by decide +kernel) (pa_cons (pv 11) pa_nil)) (pa_cons (pe_call G_law_body hr rfl R_law_body.m R_law_body.k R_law_body.b .nil pass0 (pa_cons (pv 9) (pa_cons (pv 12) (pa_cons (pv 11) (pa_cons (pv 6) pa_nil))))) pa_nil)))) pa_nil)))))))))
    (pss_one (ps_ret (pe_callTy call_tuple_of (by rfl) T.m_tuple (by decide +kernel) (pa_cons (pv 7) pa_nil))))))))))), ?_⟩
  refine ⟨_, rfl, _, rfl, sc, ns, start, rfl, hS, hst0, by omega, fun hp z0 hhp => ?_⟩
  have s1 := same_new hhp (.lst [.int z0])
  have t1 : Tp (upd H hp (.lst [.int z0])) hp := ⟨z0, upd_same⟩
  -- errands
  refine ⟨_, rfl, sz (by show 6 ≤ 100000; decide), fun p2 hp2 => ?_⟩
  have s2 := same_new hp2 (.lst [.int 1, .int 2, .int 2, .int 3, .int 4, .int 6])
  have t2 := t1.same s2
  have n2 : p2 ≠ hp := (ne_of_none upd_same hp2).symm
  refine ⟨_, rfl, hp, 6, rfl, t2, by decide, by decide, fun r H3 r0 r1 b3 t3 => ?_⟩
  have hme : ∃ m : Int, atI [V.int 1, .int 2, .int 2, .int 3, .int 4, .int 6] r = some (.int m) ∧ 1 ≤ m ∧ m ≤ 6 := by
    obtain ⟨v, hv, hm⟩ := at_some (xs := [V.int 1, .int 2, .int 2, .int 3, .int 4, .int 6]) r0 r1
    simp only [List.mem_cons, List.not_mem_nil, or_false] at hm
    rcases hm with z | z | z | z | z | z <;> subst z <;> exact ⟨_, hv, by decide, by decide⟩
  obtain ⟨m, hma, hm1, hm6⟩ := hme
  refine ⟨p2, _, _, _, rfl, rfl, SqL.of (b3 _ _ n2 upd_same), hma, ?_⟩
  refine ⟨hp, m, rfl, t3, by omega, by omega, fun el fs H4 b4 t4 hel w4 hfl hnd => ?_⟩
  have sH3 : Same H H3 := fun b o h => b3 _ _ (ne_of_none h hhp) (s2 _ _ (s1 _ _ h))
  have sH4 : Same H H4 := fun b o h => b4 _ _ (ne_of_none h hhp) (sH3 _ _ h)
  -- heads
  intro hd hhd
  have s5 := same_new hhd (.dK [])
  have t5 := t4.same s5
  have w5 := w4.but (but_same s5) t4
  have hhd0 : H hd = none := by
    cases e : H hd with
    | none => rfl
    | some o =>
      rw [sH4 _ _ e] at hhd
      cases hhd
  have nhd : hd ≠ hp := by
    obtain ⟨z, hz⟩ := t4
    exact (ne_of_none hz hhd).symm
  have neh : el ≠ hd := ne_of_none w4.1 hhd
  have hlen6 : fs.length ≤ 6 := by omega
  have sH5 : Same H (upd H4 hd (.dK [])) := sH4.trans s5
  have h5d : upd H4 hd (.dK []) hd = some (.dK []) := upd_same
  generalize upd H4 hd (.dK []) = H5 at s5 t5 w5 sH5 h5d
  refine ⟨_, rfl, el, rfl, ⟨_, SqL.of w5.1⟩, for_list (K := K) (a := el) (xs := fs.map V.str) (fun i σ H' => ∃ o kvs, σ = [some (.ref sc), some (.int start), some (.ref hp), some (.ref el), some (.ref hd), o, none, none, none, none, none, none, none] ∧
    But2 hp hd H5 H' ∧ Tp H' hp ∧ H' hd = some (.dK kvs) ∧ kvs.length ≤ i ∧ ∀ f ∈ fs.take i, ∃ n : Int, valV kvs (Sum.inr f) = some (.int n) ∧ 0 ≤ n ∧ n ≤ 4) ?_ ?_ ?_ ?_⟩
  · refine ⟨none, [], rfl, But2.refl _ _ _, t5, h5d, Nat.le_refl _, fun f hf => ?_⟩
    rw [List.take_zero] at hf
    cases hf
  · rintro i σ H' _ ⟨o, kvs, rfl, b6, _⟩
    exact SqL.of (b6 _ _ (wls_tp w5.1 t5) neh w5.1)
  · rintro i x σ H6 hx ⟨o, kvs, rfl, b6, t6, h6, hkl, hkv⟩
    rw [List.getElem?_map] at hx
    obtain ⟨fn, hfn, rfl⟩ : ∃ fn, fs[i]? = some fn ∧ V.str fn = x := by
      cases e : fs[i]? with
      | none =>
        rw [e] at hx
        cases hx
      | some fn =>
        rw [e] at hx
        exact ⟨fn, rfl, Option.some.inj hx⟩
    obtain ⟨hi, hi2⟩ := List.getElem?_eq_some_iff.mp hfn
    refine ⟨sz (by show 6 ≤ 100000; decide), fun p7 hp7 => ?_⟩
    have s7 := same_new hp7 (.lst [.int 1, .int 2, .int 1, .int 0, .int 3, .int 4])
    have n7 : p7 ≠ hp := by
      obtain ⟨z, hz⟩ := t6
      exact (ne_of_none hz hp7).symm
    refine ⟨_, rfl, hp, 6, rfl, t6.same s7, by decide, by decide, fun r2 H8 r3 r4 b8 t8 => ?_⟩
    have hne : ∃ m : Int, atI [V.int 1, .int 2, .int 1, .int 0, .int 3, .int 4] r2 = some (.int m) ∧ 0 ≤ m ∧ m ≤ 4 := by
      obtain ⟨v, hv, hm⟩ := at_some (xs := [V.int 1, .int 2, .int 1, .int 0, .int 3, .int 4]) r3 r4
      simp only [List.mem_cons, List.not_mem_nil, or_false] at hm
      rcases hm with z | z | z | z | z | z <;> subst z <;> exact ⟨_, hv, by decide, by decide⟩
    obtain ⟨m2, hma2, hm20, hm24⟩ := hne
    have h8 : H8 hd = some (.dK kvs) := b8 _ _ nhd (s7 _ _ h6)
    refine ⟨p7, _, _, _, rfl, rfl, SqL.of (b8 _ _ n7 upd_same), hma2, _, rfl, _, rfl, hd, _, rfl, DPut.k (k := Sum.inr fn) h8 (Nat.lt_of_le_of_lt (m := 1000) (by omega) (by decide)), ?_⟩
    refine ⟨_, _, rfl, fun b o n1 n2 hb => ?_, ?_, upd_same, ?_, ?_⟩
    · rw [upd_ne n2]
      exact b8 _ _ n1 (s7 _ _ (b6 _ _ n1 n2 hb))
    · obtain ⟨z, hz⟩ := t8
      exact ⟨z, by rw [upd_ne nhd.symm]; exact hz⟩
    · have := length_putK kvs (Sum.inr fn) (V.int m2)
      omega
    · intro f' hf'
      rw [List.take_succ_eq_append_getElem hi, hi2] at hf'
      by_cases e : f' = fn
      · subst e
        exact ⟨m2, by rw [valV_put, if_pos rfl], hm20, hm24⟩
      · rcases List.mem_append.mp hf' with z | z
        · obtain ⟨n3, q1, q2, q3⟩ := hkv f' z
          refine ⟨n3, ?_, q2, q3⟩
          rw [valV_put, if_neg (fun y => e (Sum.inr.inj y))]
          exact q1
        · exact absurd (List.mem_singleton.mp z) e
  rintro σ H6 ⟨o5, kvs, rfl, b6, t6, h6, _, hkv⟩
  rw [List.length_map, List.take_length] at hkv
  have w6 : Wls H6 el fs := ⟨b6 _ _ (wls_tp w5.1 t5) neh w5.1, w5.2⟩
  have sH6 : Same H H6 := fun b o hb => b6 _ _ (ne_of_none hb hhp) (ne_of_none hb hhd0) (sH5 _ _ hb)
  -- room
  refine ⟨sz (by show 4 ≤ 100000; decide), fun p7 hp7 => ?_⟩
  have s7 := same_new hp7 (.lst [.int 8, .int 14, .int 24, .int 40])
  have n7 : p7 ≠ hp := by
    obtain ⟨z, hz⟩ := t6
    exact (ne_of_none hz hp7).symm
  refine ⟨_, rfl, hp, 4, rfl, t6.same s7, by decide, by decide, fun r2 H8 r3 r4 b8 t8 => ?_⟩
  have hre : ∃ m : Int, atI [V.int 8, .int 14, .int 24, .int 40] r2 = some (.int m) ∧ 8 ≤ m ∧ m ≤ 40 := by
    obtain ⟨v, hv, hm⟩ := at_some (xs := [V.int 8, .int 14, .int 24, .int 40]) r3 r4
    simp only [List.mem_cons, List.not_mem_nil, or_false] at hm
    rcases hm with z | z | z | z <;> subst z <;> exact ⟨_, hv, by decide, by decide⟩
  obtain ⟨room, hra, hr8, hr40⟩ := hre
  refine ⟨p7, _, _, _, rfl, rfl, SqL.of (b8 _ _ n7 upd_same), hra, ?_⟩
  have sH8 : Same H H8 := fun b o hb => b8 _ _ (ne_of_none hb hhp) (s7 _ _ (sH6 _ _ hb))
  have w8 : Wls H8 el fs := ⟨b8 _ _ (wls_tp w6.1 t6) (s7 _ _ w6.1), w6.2⟩
  have h8 : H8 hd = some (.dK kvs) := b8 _ _ nhd (s7 _ _ h6)
  have hS8 : SqL K H8 sc (ns.map V.int) := sH8.seq hS
  clear h6 w6 sH6 s7 b8 t8 hp7 b6 t6
  -- found
  refine ⟨sz (by show 0 ≤ 100000; decide), fun fl hflN => ?_⟩
  have s9 := same_new hflN (.lst [])
  refine ⟨_, rfl, el, _, rfl, .inl (SqL.of (s9 _ _ w8.1)), _, rfl, by omega, by rw [List.length_map]; omega, ?_⟩
  have hnl : (((fs.map V.str).length : Nat) : Int).toNat = fs.length := by
    rw [Int.toNat_natCast, List.length_map]
  refine for_range (lo := 0) (n := (((fs.map V.str).length : Nat) : Int).toNat) (fun i σ H' => ∃ o8 o9 o10 o11 o12 vs es, σ = [some (.ref sc), some (.int start), some (.ref hp), some (.ref el), some (.ref hd), o5, some (.int room), some (.ref fl), o8, o9, o10, o11, o12] ∧
    Same H8 H' ∧ H' fl = some (.lst vs) ∧ All2 (ErV H') es vs ∧ es.length = i ∧ es.map (·.1) = fs.take i ∧ ∀ e ∈ es, GdE (hFof fs kvs) e) ?_ ?_ ?_
  · exact ⟨_, _, _, _, _, [], [], rfl, s9, upd_same, trivial, rfl, rfl, fun _ z => nomatch z⟩
  · rintro i σ H' hi ⟨o8, o9, o10, o11, o12, vs, es, rfl, sA, hfA, kA, hel2, hnm, hgd⟩
    rw [hnl] at hi
    have hfi : fs[i]? = some fs[i] := List.getElem?_eq_getElem hi
    have hfm := List.getElem_mem hi
    generalize fs[i] = fn at hfi hfm
    have ei : (0 : Int) + (i : Nat) = ((i : Nat) : Int) := by omega
    have hat : atI (fs.map V.str) ((0 : Int) + (i : Nat)) = some (V.str fn) := by
      rw [ei]
      exact atI_nat (by rw [List.getElem?_map, hfi]; rfl)
    obtain ⟨nn, hnn, hn0, hn4⟩ := hkv fn hfm
    -- tape
    refine ⟨_, rfl, _, rfl, _, _, rfl, rfl, _, rfl, _, _, rfl, rfl, sc, ns, _, rfl, sA.seq hS8, by omega, by omega, fun tp z htp => ?_⟩
    have sB := same_new htp (.lst [.int z])
    have tB : Tp (upd H' tp (.lst [.int z])) tp := ⟨z, upd_same⟩
    refine ⟨_, rfl, tp, 16, rfl, tB, by decide, by decide, fun wp ws HC bC tC hwp wC hwl hwnd => ?_⟩
    have hwl16 : ws.length = 16 := by omega
    have sC : Same H' HC := fun b o hb => bC _ _ (ne_of_none hb htp) (sB _ _ hb)
    have wCe : Wls HC el fs := ⟨sC _ _ (sA _ _ w8.1), w8.2⟩
    have hCd : HC hd = some (.dK kvs) := sC _ _ (sA _ _ h8)
    -- names
    refine ⟨_, rfl, _, rfl, _, rfl, _, rfl, el, _, _, _, rfl, rfl, SqL.of wCe.1, hat, hd, _, rfl, get_of hCd hnn, _, rfl, wp, _, rfl, SqL.of wC.1, fun np hnp => ?_⟩
    have eN : cutV (ws.map V.str) none (some nn) = (ws.take nn.toNat).map V.str := by
      rw [cut_to hn0 (by rw [List.length_map]; omega), List.map_take]
    rw [eN]
    have sD := same_new hnp (.lst ((ws.take nn.toNat).map V.str))
    have hD : upd HC np (.lst ((ws.take nn.toNat).map V.str)) np = some (.lst ((ws.take nn.toNat).map V.str)) := upd_same
    have tD := tC.same sD
    generalize upd HC np (.lst ((ws.take nn.toNat).map V.str)) = HD at sD hD tD
    -- known
    intro kd hkd
    have sE := same_new hkd (.dK [])
    refine ⟨_, rfl, _, rfl, _, rfl, _, rfl, np, _, rfl, .inl (SqL.of (sE _ _ hD)), _, rfl, wp, _, rfl, SqL.of (sE _ _ (sD _ _ wC.1)), fun wl hwlN => ?_⟩
    have eW : cutV (ws.map V.str) (some ((((ws.take nn.toNat).map V.str).length : Nat) : Int)) none = (ws.drop nn.toNat).map V.str := by
      have e1 : ((ws.take nn.toNat).map V.str).length = nn.toNat := by
        rw [List.length_map, List.length_take]
        omega
      rw [e1, cut_from (by omega) (by rw [List.length_map]; omega), List.map_drop, Int.toNat_natCast]
    rw [eW]
    have sF := same_new hwlN (.lst ((ws.drop nn.toNat).map V.str))
    have hkF : upd (upd HD kd (.dK [])) wl (.lst ((ws.drop nn.toNat).map V.str)) kd = some (.dK []) := sF _ _ upd_same
    have hwF : upd (upd HD kd (.dK [])) wl (.lst ((ws.drop nn.toNat).map V.str)) wl = some (.lst ((ws.drop nn.toNat).map V.str)) := upd_same
    have nwk : wl ≠ kd := (ne_of_none upd_same hwlN).symm
    have nwn : np ≠ wl := ne_of_none (sE _ _ hD) hwlN
    have sDF := sE.trans sF
    have nwe : el ≠ wl := ne_of_none (sE _ _ (sD _ _ wCe.1)) hwlN
    have hwl0 : H' wl = none := by
      cases e : H' wl with
      | none => rfl
      | some o =>
        rw [sE _ _ (sD _ _ (sC _ _ e))] at hwlN
        cases hwlN
    generalize upd (upd HD kd (.dK [])) wl (.lst ((ws.drop nn.toNat).map V.str)) = HF at sDF hkF hwF
    refine ⟨hkF, knD el hd wl, rfl, by show 3 ≤ 15; decide, ?_⟩
    rw [merge_kn]
    have sG : Same HD (upd HF kd (.dK (knD el hd wl))) := fun b o hb => by
      have nb : b ≠ kd := ne_of_none hb hkd
      rw [upd_ne nb]
      exact sDF _ _ hb
    have hkG : upd HF kd (.dK (knD el hd wl)) kd = some (.dK (knD el hd wl)) := upd_same
    have hwG : upd HF kd (.dK (knD el hd wl)) wl = some (.lst ((ws.drop nn.toNat).map V.str)) := by
      rw [upd_ne nwk]
      exact hwF
    generalize upd HF kd (.dK (knD el hd wl)) = HG at sG hkG hwG
    have sCG := sD.trans sG
    have gG : GS HG tp kd wl (hFof fs kvs) (ws.drop nn.toNat) := ⟨tC.same sCG, ⟨hwG, fun x hx => wC.2 x (List.mem_of_mem_drop hx)⟩, by rw [List.length_drop]; omega,
      el, hd, fs, kvs, hkG, nwe, ⟨sCG _ _ wCe.1, wCe.2⟩, by omega, by omega, sCG _ _ hCd, fun f hf => let ⟨n, e1, e2, e3⟩ := hkv f hf; ⟨n, e1, e2, e3, hFof_at hf e1⟩⟩
    have wG : Wls HG np (ws.take nn.toNat) := ⟨sG _ _ hD, fun x hx => wC.2 x (List.mem_of_mem_take hx)⟩
    -- the errand
    refine ⟨_, rfl, .inl ⟨rfl, _, SqL.of (sCG _ _ (sC _ _ hfA))⟩, _, rfl, _, rfl, el, _, _, _, rfl, rfl, SqL.of (sCG _ _ wCe.1), hat, _, rfl, np, _, rfl, .inl ⟨SqL.of wG.1, fun tl htl => ?_⟩⟩
    have sH := same_new htl (.tup ((ws.take nn.toNat).map V.str))
    refine ⟨_, rfl, _, rfl, _, rfl, _, rfl, tp, kd, wl, np, hFof fs kvs, ws.drop nn.toNat, ws.take nn.toNat, room, rfl, gG.same sH, wG.but (but_same sH) gG.t, nwn, by rw [List.length_take]; omega, hr8, hr40, fun a t ls HI wsI bI eI gI gdI => ?_⟩
    refine ⟨sz (by show 3 ≤ 100000; decide), fun ep hep => ?_⟩
    have sJ := same_new hep (.tup [.str fn, .ref tl, .ref a])
    have tkI : TK (upd HG tl (.tup ((ws.take nn.toNat).map V.str))) HI := (gG.same sH).tk bI
    have sX : Same H' HI := fun b o hb => bI _ _ (ne_of_none hb htp) (ne_of_none hb hwl0) (sH _ _ (sCG _ _ (sC _ _ hb)))
    have sXJ := sX.trans sJ
    have hfJ := sXJ _ _ hfA
    have hvl := kA.len
    refine ⟨fl, _, _, rfl, rfl, hfJ, Nat.lt_of_le_of_lt (m := 1000) (by omega) (by decide), ?_⟩
    have tkJ := (tk_same sXJ).trans (tk_put (o := .lst (vs ++ [.ref ep])) hfJ)
    have tkP := tk_put (o := .lst (vs ++ [.ref ep])) hfJ
    refine ⟨_, _, _, _, _, vs ++ [.ref ep], es ++ [(fn, ws.take nn.toNat, t)], rfl, same_mut (sA.trans sXJ) hflN, upd_same, ?_, ?_, ?_, ?_⟩
    · refine (kA.imp fun _ _ z => z.tk tkJ).app ⟨⟨ep, tl, a, rfl, tkP _ _ upd_same, tkP _ _ (sJ _ _ (tkI _ _ upd_same)), (gdI.at_.mono sJ).tk tkP⟩, trivial⟩
    · rw [List.length_append, hel2]
      rfl
    · rw [List.map_append, hnm, List.take_succ_eq_append_getElem hi]
      have e : fs[i] = fn := by
        rw [List.getElem?_eq_getElem hi] at hfi
        exact Option.some.inj hfi
      rw [e]
      rfl
    · intro e he
      rcases List.mem_append.mp he with z | z
      · exact hgd e z
      · rw [List.mem_singleton.mp z]
        have etk : (ws.take nn.toNat).length = nn.toNat := by
          rw [List.length_take]
          omega
        refine ⟨w8.2 fn hfm, fun x hx => wC.2 x (List.mem_of_mem_take hx), by show (ws.take nn.toNat).length ≤ 4; omega, gdI.ok, ?_, gdI.dp, ?_, gdI.sc, ?_⟩
        · have := gdI.cn
          show cnt t ≤ 40
          omega
        · show hFof fs kvs fn = some (ws.take nn.toNat).length
          rw [etk]
          exact hFof_at hfm hnn
        · show (ws.take nn.toNat ++ letsOf t).Nodup
          rw [gdI.lt]
          have e9 : ws = ws.take nn.toNat ++ (wsI ++ ls.reverse) := by rw [← eI, List.take_append_drop]
          rw [e9] at hwnd
          rw [List.nodup_append] at hwnd ⊢
          obtain ⟨n1, n2, n3⟩ := hwnd
          refine ⟨n1, ?_, fun a ha b hb => n3 a ha b (List.mem_append_right _ (List.mem_reverse.mpr hb))⟩
          have n4 := (List.nodup_append.mp n2).2.1
          exact (List.reverse_perm ls).nodup_iff.mp n4
  · rintro σ H' ⟨o8, o9, o10, o11, o12, vs, es, rfl, sA, hfA, kA, hel2, hnm, hgd⟩
    rw [hnl] at hel2 hnm
    rw [List.take_length] at hnm
    refine ⟨_, rfl, fl, _, rfl, .inl ⟨SqL.of hfA, fun p hp9 => ?_⟩⟩
    have sK := same_new hp9 (.tup vs)
    refine q p es vs _ ((sH8.trans sA).trans sK) ⟨upd_same, kA.imp fun _ _ z => z.tk (tk_same sK)⟩ ⟨by omega, by rw [hnm]; exact hnd, _, hgd, fun f n hf => by rw [hnm]; exact hFof_in hf⟩
end
end KB

namespace KB
open PySem L2 HT

/-! ### del xs[a:] -/
theorem filt_take {α : Type} (sel : Nat → Bool) (a : Nat) : ∀ (xs : List α) (j : Nat), (∀ k, j ≤ k → k < j + xs.length → sel k = decide (a ≤ k)) →
    (xs.zipIdx j).filterMap (fun p => if sel p.2 = true then none else some p.1) = xs.take (a - j)
  | [], _, _ => by simp
  | x :: r, j, h => by
    have h0 := h j (Nat.le_refl _) (by rw [List.length_cons]; omega)
    have ih := filt_take sel a r (j + 1) fun k h1 h2 => h k (by omega) (by rw [List.length_cons]; omega)
    rw [List.zipIdx_cons, List.filterMap_cons]
    by_cases c : a ≤ j
    · rw [decide_eq_true c] at h0
      simp only [h0, if_true]
      rw [ih]
      have e1 : a - j = 0 := by omega
      have e2 : a - (j + 1) = 0 := by omega
      rw [e1, e2]
      rfl
    · rw [decide_eq_false c] at h0
      simp only [h0]
      rw [ih]
      have e1 : a - j = (a - (j + 1)) + 1 := by omega
      rw [e1]
      rfl
theorem bounds_from {a n : Nat} (h : a ≤ n) : sliceBounds (some (a : Int)) none none n = ((a : Int), (n : Int), 1) := by
  simp only [sliceBounds, Option.getD_none]
  have h1 : ¬ ((a : Int) < 0) := by omega
  simp only [h1, if_false, show (1 : Int) > 0 by decide, if_true]
  congr 1
  omega
section
variable {prog : Program} {w : World} {A : Around} {E : Value → Shared → Prop} {s : Shared}
theorem delItem_from {l sl : Addr} {items : Array Value} {n : Nat} {vl : Value} {a : Nat} {Q : Unit → Shared → Prop}
    (e : s.heap.get? l = some { cls := .type "list", data := .seq items n }) (hs : s.heap.IsSliceOf sl vl .none .none) (pl : IsPart vl (some (a : Int))) (ha : a ≤ items.size)
    (hsz : items.size ≤ sizeLine) (h : ∀ g : Array Value → Array Value, g items = (items.toList.take a).toArray → Q () { s with heap := s.heap.update l (Obj.mapSeq g) }) :
    wpAny (model prog w) A (delItem (.ref l) (.ref sl)) Q E s := by
  have hl : s.heap.IsList l items := PySem.IsL.isList e
  obtain ⟨os, hos, hcs, hds⟩ := id hs
  have hTs : s.TypeIs (.ref sl) "slice" := ⟨os, hos, hcs⟩
  have hstep : ¬ ((rawPart none == rawInt 0) = true) := Bool.false_ne_true
  refine wpAny_delItem_slot hl.typeIs (by decide) F.slot_list_delitem (wpAny_call_entry F.slot_list_delitem hl.typeIs F.entry_list_delitem ?_ (F.args_list_delitem_2 _ _))
  show wpAny _ _ (Builtin.List.listSubscript? (.ref sl) >>= _) _ _ s
  refine wpAny_bind ?_
  unfold Builtin.List.listSubscript?
  refine wpAny_bind (wpAny_specialOf hTs slice_no_index ?_)
  simp only [Option.isNone_none, if_true]
  refine wpAny_pure ?_
  show wpAny _ _ (typeOf (.ref sl) >>= _) _ _ s
  refine wpAny_bind (wpAny_typeOf hTs ?_)
  first
    | rw [if_neg (by decide)]
    | refine PySem.W.KFB.if_not (by decide) ?_
  rw [listSliceParts_eq]
  refine wpAny_bind (wpAny_bind (wpAny_field hos hds (x := .none) rfl (wpAny_bind (wpAny_listPart .none ?_))))
  rw [if_neg hstep]
  refine wpAny_bind (wpAny_field hos hds (x := vl) rfl (wpAny_bind (wpAny_listPart pl ?_)))
  refine wpAny_bind (wpAny_field hos hds (x := .none) rfl (wpAny_bind (wpAny_listPart .none (wpAny_pure ?_))))
  unfold Builtin.List.listItems
  refine wpAny_bind (wpAny_bind (wpAny_seqItems e rfl (wpAny_pure ?_)))
  refine wpAny_bind (wpAny_of_eq ((sliceIndices_raw (some (a : Int)) none none items.size (by simp)).trans (congrArg (pure : Int × Int × Int → Sem (Int × Int × Int)) (bounds_from ha))) ?_)
  refine wpAny_bind (wpAny_rule ?_)
  show wpAny _ _ (updateSeq l _ >>= _) _ _ s
  have hsel : ∀ (sel : Nat → Bool), (∀ k : Nat, sel k = (((a : Int) ≤ (k : Int)) && ((k : Int) < (items.size : Int)) && (((k : Int) - (a : Int)) % 1 == 0))) →
      (List.filterMap (fun p => if sel p.2 = true then none else some p.1) items.toList.zipIdx).toArray = (items.toList.take a).toArray := by
    intro sel hk
    congr 1
    refine filt_take sel a items.toList 0 fun k _ h2 => ?_
    rw [hk k]
    have h3 : (k : Int) < (items.size : Int) := by
      rw [Array.length_toList] at h2
      omega
    have h4 : (((k : Int) - (a : Int)) % 1 == 0) = true := by
      rw [Int.emod_one]
      rfl
    rw [h4, decide_eq_true h3, Bool.and_true, Bool.and_true]
    by_cases c : a ≤ k
    · rw [decide_eq_true c, decide_eq_true (by omega)]
    · rw [decide_eq_false c, decide_eq_false (by omega)]
  refine wpAny_bind (wpAny_updateSeq (hz := hsz) (_hz' := ?sz) e rfl ?_)
  case sz =>
    refine Nat.le_trans (Nat.le_of_eq (congrArg Array.size (hsel _ fun k => rfl))) ?_
    rw [List.size_toArray, List.length_take]
    omega
  refine wpAny_bind (wpAny_letGo ?_)
  exact wpAny_pure ⟨.none, rfl, h _ (hsel _ fun k => rfl)⟩
end
section
variable {X : Cx} {pos : Pos}
/-- del xs[a:] -/
def tDelFrom (to ti : TE) : TS := fun D σ H => to σ H fun x H1 => tPart ti σ H1 fun o H2 => ∃ (l : Addr) (xs : List V) (a : Nat), x = .ref l ∧ o = some (a : Int) ∧ H2 l = some (.lst xs) ∧ a ≤ xs.length ∧ D.nx σ (upd H2 l (.lst (xs.take a)))
theorem ps_delFrom {o lo : Expr} {to ti : TE} {spos tpos : Pos} (ho : PE X o to) (hi : PE X lo ti) : PS X (.Delete [.Subscript o (.Slice (some lo) none none spos) tpos] pos) (tDelFrom to ti) := by
  refine ⟨fun pins s σ H D I h => ?_⟩
  refine wpAny_Delete (wpAny_deleteEach_cons (wpAny_delete_Subscript (thn (ho.run pins s σ H _ I h) fun u s1 ⟨x, H1, I1, rx, q1⟩ => ?_)))
  refine wpAny_Slice (thn ((po_some hi).run pins s1 σ H1 _ I1 q1) fun vl s2 ⟨l', H2, I2, pl, q2⟩ => thn (po_none.run pins s2 σ H2 (fun o H3 => o = none ∧ H3 = H2) I2 ⟨rfl, rfl⟩) fun vu s3 ⟨u', H3, I3, pu, eu, eH⟩ => ?_)
  subst eu eH
  rw [evalPart_none]
  refine wpAny_pure ?_
  obtain ⟨l, xs, a, ex, eo, hH, ha, q⟩ := q2
  subst ex eo
  cases (show u = Value.ref l from rx)
  have hvu : vu = Value.none := by
    cases pu
    rfl
  subst hvu
  have I4 : Inv X pins σ H3 { s3 with heap := s3.heap.push { cls := .type "slice", data := .fields #[vl, .none, .none] } } := I3.kept (t' := s3.toks) fun b ob q => Heap.get?_push_of_some _ q
  obtain ⟨z, its, n, r, hl, e⟩ := I4.lstM hH
  refine delItem_from (a := a) e (Heap.IsSliceOf.new ..) pl (by rw [List.size_toArray, ← hl]; exact ha) (by rw [List.size_toArray, ← hl]; exact z) fun g hg => ?_
  refine wpAny_deleteEach_nil ⟨σ, _, I4.lset (its' := its.take a) (t' := s3.toks) hH e hg (r.take a) ?_, q⟩
  rw [List.length_take]
  omega
end
end KB

namespace KB
open PySem L2 HT

def kidsT : Tm → List Tm | .mk _ _ k => List.ofFn k
def hdT : Tm → Hd | .mk h _ _ => h
def lazyH : Hd → Bool | .lett _ | .iff => true | _ => false
def noT : Tm := mkL .plus []
def kid (t : Tm) (i : Nat) : Tm := ((kidsT t)[i]?).getD noT
theorem kids_len {h : Hd} {n : Nat} {k : _root_.Fin n → Tm} : (kidsT (.mk h n k)).length = n := List.length_ofFn
end KB

namespace HT
open PySem PySem.Spec PyProof.Rows
section
variable {prog : Program} {w : World} {A : Around} {E : Value → Shared → Prop} {s : Shared}
theorem sliceApplied_rev {sl : Addr} {vk : Value} {n : Nat} {Q : Int × Int × Nat → Shared → Prop} (hs : s.heap.IsSliceOf sl .none .none vk) (pk : IsPart vk (some (-1)))
    (h : Q ((n : Int) - 1, -1, n) s) : wpAny (model prog w) A (Builtin.Slice.sliceApplied (.ref sl) (pure (n : Int))) Q E s := by
  obtain ⟨os, hos, hcs, hds⟩ := id hs
  unfold Builtin.Slice.sliceApplied Builtin.Slice.sliceFields
  refine wpAny_bind (wpAny_bind (wpAny_field hos hds (x := .none) rfl (wpAny_bind (wpAny_field hos hds (x := .none) rfl (wpAny_bind (wpAny_field hos hds (x := vk) rfl (wpAny_pure ?_)))))))
  refine wpAny_bind (slicePart_ pk ?_)
  show wpAny _ _ (if ((-1 : Int) == 0) = true then _ else _) _ _ s
  rw [if_neg (by decide)]
  refine wpAny_bind (slicePart_none (wpAny_bind (slicePart_none (wpAny_bind (wpAny_pure ?_)))))
  show wpAny _ _ (pure ((n : Int) - 1, (-1 : Int), Builtin.Slice.slicePlaces ((n : Int) - 1) (-1) (-1))) _ _ s
  have e : Builtin.Slice.slicePlaces ((n : Int) - 1) (-1) (-1) = n := by
    unfold Builtin.Slice.slicePlaces
    have h1 : ¬ ((-1 : Int) > 0) := by omega
    have h2 : (-(-1) : Int) = 1 := by decide
    simp only [h1, if_false, h2, Int.ediv_one]
    split <;> omega
  rw [e]
  exact wpAny_pure h
theorem pick_rev (xs : Array Value) : ((List.range xs.size).filterMap fun (m : Nat) => xs[(((xs.size : Nat) : Int) - 1 + (m : Int) * (-1)).toNat]?).toArray = xs.toList.reverse.toArray := by
  have e : (fun (m : Nat) => xs[(((xs.size : Nat) : Int) - 1 + (m : Int) * (-1)).toNat]?) = fun m => xs[xs.size - 1 - m]? := by
    funext m
    have : (((xs.size : Nat) : Int) - 1 + (m : Int) * (-1)).toNat = xs.size - 1 - m := by omega
    rw [this]
  rw [e]
  have h := PySem.W.krv_range xs.size
  have e2 : (List.range xs.size).filterMap (fun m => xs[xs.size - 1 - m]?) = ((List.range xs.size).map fun k => xs.size - 1 - k).filterMap (xs[·]?) := by
    rw [List.filterMap_map]
    rfl
  rw [e2, h, List.filterMap_reverse, PySem.W.krv_all]
theorem getItem_tuple_rev {t sl : Addr} {items : Array Value} {vk : Value} {Q : Value → Shared → Prop} (ht : IsTup s.heap t items) (hs : s.heap.IsSliceOf sl .none .none vk) (pk : IsPart vk (some (-1)))
    (h : Q (.ref s.heap.objs.size) { s with heap := s.heap.push { cls := .type "tuple", data := .seq (items.toList.reverse).toArray } })
    (hsz : items.size ≤ sizeLine) : wpAny (model prog w) A (getItem (.ref t) (.ref sl)) Q E s := by
  have htake : sizeOk (.seq (items.toList.reverse).toArray) := by
    show (items.toList.reverse).toArray.size ≤ sizeLine
    rw [List.size_toArray, List.length_reverse, Array.length_toList]
    omega
  obtain ⟨os, hos, hcs, hds⟩ := id hs
  have hTs : s.TypeIs (.ref sl) "slice" := ⟨os, hos, hcs⟩
  unfold getItem
  try with_reducible refine wpAny_holding ?_
  first | refine wpAny_bind (wpAny_pure ?_) | skip
  refine wpAny_bind (wpAny_sequenceKey ht.typeIs (by decide) ?_)
  refine wpAny_bind (wpAny_callSpecial?_slot (name := Str.ofString "__getitem__") ht.typeIs PyProof.Rows.slot_tuple_getitem
    (wpAny_call_entry PyProof.Rows.slot_tuple_getitem ht.typeIs entry_tuple_getitem ?_ (args_tuple_getitem _ _)))
  show wpAny _ _ (Builtin.Tuple.tupleItemsOf (.ref t) >>= _) _ _ s
  refine wpAny_bind (tupleItemsOf_ ht ?_)
  refine wpAny_bind (wpAny_typeOf hTs ?_)
  rw [if_pos (by decide)]
  refine wpAny_bind (sliceApplied_rev hs pk ?_)
  have hno : ¬ ((((((items.size : Nat) : Int) - 1) == 0 && (-1 : Int) == 1 && items.size == items.size)) = true) := by
    intro q
    rw [Bool.and_eq_true, Bool.and_eq_true] at q
    exact absurd (eq_of_beq q.1.2) (by decide)
  show wpAny _ _ (if ((((items.size : Nat) : Int) - 1) == 0 && (-1 : Int) == 1 && items.size == items.size) = true then _ else _) _ _ s
  rw [if_neg hno, pick_rev]
  first
    | exact wpAny_bind (m := Builtin.Tuple.tupleExact _) (wpAny_newObj_type (wpAny_pure ⟨_, rfl, wpAny_pure h⟩) htake)
    | exact wpAny_bind (m := Builtin.Tuple.tupleExact _) (wpAny_newObj_type (wpAny_bind (wpAny_pure (wpAny_pure ⟨_, rfl, wpAny_pure h⟩))) htake)
    | exact wpAny_bind (wpAny_bind (m := Builtin.Tuple.tupleExact _) (wpAny_newObj_type (wpAny_pure (wpAny_pure ⟨_, rfl, wpAny_pure h⟩)) htake))
    | exact wpAny_bind (wpAny_bind (m := Builtin.Tuple.tupleExact _) (wpAny_newObj_type (wpAny_pure ⟨_, rfl, wpAny_pure h⟩) htake))
end
end HT

namespace KB
open PySem PySem.Spec PyProof.Rows L2
/-- t[::-1] of a tuple -/
def tRevT (K : PySem.W.Frag) (te : TE) (tk : TO) : TE := fun σ H Q => te σ H fun x H1 => tk σ H1 fun k H2 => k = some (-1) ∧ ∃ a xs, x = .ref a ∧ SqT K H2 a xs ∧ ∀ p, H2 p = none → Q (.ref p) (upd H2 p (.tup xs.reverse))
theorem pe_revT {X : Cx} {e : Expr} {te : TE} {st : Option Expr} {tk : TO} {pos p2 : Pos} (he : PE X e te) (hk : PO X st tk) (hs : ∀ a c : Addr, subscripted (.Slice none none st p2) false (.ref a) (.ref c) = operate [.ref a, .ref c] (getItem (.ref a) (.ref c)) := by intro _ _; rfl) : PE X (.Subscript e (.Slice none none st p2) pos) (tRevT X.K te tk) := by
  refine ⟨fun pins s σ H Q I h => ?_⟩
  refine Subscript_ (thn (he.run pins s σ H _ I h) fun v s1 ⟨x, H1, I1, r1, q1⟩ => ?_)
  refine wpAny_Slice (thn ((po_none (X := X)).run pins s1 σ H1 (fun l H' => l = none ∧ H' = H1) I1 ⟨rfl, rfl⟩) fun vl s2 ⟨l, H2, I2, pl, q2⟩ => thn ((po_none (X := X)).run pins s2 σ H2 (fun l H' => l = none ∧ H' = H1) I2 ⟨rfl, q2.2⟩) fun vu s3 ⟨u, H3, I3, pu, q3⟩ => ?_)
  obtain ⟨rfl, e2⟩ := q2
  obtain ⟨rfl, e3⟩ := q3
  subst e3
  cases pl
  cases pu
  refine thn (hk.run pins s3 σ H3 _ I3 q1) fun vk s4 ⟨k, H4, I4, pk, q4⟩ => ?_
  obtain ⟨rfl, a, xs, rfl, hx, q⟩ := q4
  have I5 : Inv X pins σ H4 { s4 with heap := s4.heap.push { cls := .type "slice", data := .fields #[.none, .none, vk] } } := I4.kept (t' := s4.toks) fun b ob q => Heap.get?_push_of_some _ q
  cases r1
  obtain ⟨its, r, ht, hz⟩ := I5.tuple hx
  have hlen : its.toArray.size = xs.length := by rw [List.size_toArray]; exact r.length.symm
  refine tail_any (T := "tuple") (ops := [.ref a, .ref s4.heap.objs.size]) ht.typeIs PyProof.Rows.slot_tuple_getitem.lookup ?_ (hs _ _)
  refine HT.getItem_tuple_rev ht (Heap.IsSliceOf.new ..) pk ?_ (by rw [hlen]; exact hz)
  refine ⟨.ref _, _, I5.laid (t' := s4.toks) (o := .tup xs.reverse) (fun b ob q => Heap.get?_push_of_some _ q) (Nat.le_refl _) ?_, rfl, q _ (I5.hok.fresh (Nat.le_refl _))⟩
  refine ⟨by rw [List.length_reverse]; exact hz, _, ?_, IsTup.new _ _⟩
  show Vals xs.reverse its.toArray.toList.reverse
  exact r.reverse
end KB

namespace KB
open PySem L2

/-! ### parts of turned books as data -/
inductive Pt
  | give (j : Str) (t : Tm)
  | ask (f : Str) (ts : List Tm) (j : Str)
  | tell (x : Str) (t : Tm) (p : Pt)
  | lett (x : Str) (t : Tm) (p : Pt)
  | iff (t : Tm) (p q : Pt)
  | post (j x : Str) (p q : Pt)
def RefV (H : Hp) (t : Tm) (v : V) : Prop := ∃ b, v = .ref b ∧ At H t b
def PAt (H : Hp) : Pt → Addr → Prop
  | .give j t, a => ∃ b, H a = some (.tup [.str "give", .str j, .ref b]) ∧ At H t b
  | .ask f ts j, a => ∃ q vs, H a = some (.tup [.str "ask", .str f, .ref q, .str j]) ∧ H q = some (.tup vs) ∧ All2 (RefV H) ts vs
  | .tell x t p, a => ∃ b c, H a = some (.tup [.str "tell", .str x, .ref b, .ref c]) ∧ At H t b ∧ PAt H p c
  | .lett x t p, a => ∃ b c, H a = some (.tup [.str "let", .str x, .ref b, .ref c]) ∧ At H t b ∧ PAt H p c
  | .iff t p q, a => ∃ b c d, H a = some (.tup [.str "if", .ref b, .ref c, .ref d]) ∧ At H t b ∧ PAt H p c ∧ PAt H q d
  | .post j x p q, a => ∃ c d, H a = some (.tup [.str "post", .str j, .str x, .ref c, .ref d]) ∧ PAt H p c ∧ PAt H q d
theorem RefV.tk {H H' : Hp} (k : TK H H') {t : Tm} {v : V} (h : RefV H t v) : RefV H' t v := let ⟨b, e, g⟩ := h; ⟨b, e, g.tk k⟩
theorem PAt.tk {H H' : Hp} (k : TK H H') : ∀ {p : Pt} {a : Addr}, PAt H p a → PAt H' p a
  | .give j t, a, ⟨b, h1, h2⟩ => ⟨b, k _ _ h1, h2.tk k⟩
  | .ask f ts j, a, ⟨q, vs, h1, h2, h3⟩ => ⟨q, vs, k _ _ h1, k _ _ h2, h3.imp fun _ _ z => z.tk k⟩
  | .tell x t p, a, ⟨b, c, h1, h2, h3⟩ => ⟨b, c, k _ _ h1, h2.tk k, PAt.tk k h3⟩
  | .lett x t p, a, ⟨b, c, h1, h2, h3⟩ => ⟨b, c, k _ _ h1, h2.tk k, PAt.tk k h3⟩
  | .iff t p q, a, ⟨b, c, d, h1, h2, h3, h4⟩ => ⟨b, c, d, k _ _ h1, h2.tk k, PAt.tk k h3, PAt.tk k h4⟩
  | .post j x p q, a, ⟨c, d, h1, h2, h3⟩ => ⟨c, d, k _ _ h1, PAt.tk k h2, PAt.tk k h3⟩
def pcnt : Pt → Nat
  | .give _ _ => 1
  | .ask _ _ _ => 1
  | .tell _ _ p => 1 + pcnt p
  | .lett _ _ p => 1 + pcnt p
  | .iff _ p q => 1 + pcnt p + pcnt q
  | .post _ _ p q => 1 + pcnt p + pcnt q
/-! ### trees, whatever they are made of -/
def plL {N : Type} (pl : N → List (List Int × N)) : Nat → List N → List (List Int × N)
  | _, [] => []
  | j, t :: ts => (pl t).map (fun e => ((j : Int) :: e.1, e.2)) ++ plL pl (j + 1) ts
structure Tre (N : Type) where
  kids : N → List N
  sz : N → Nat
  pl : N → List (List Int × N)
  A : Hp → N → Addr → Prop
  tk : ∀ {H H' : Hp} {n : N} {a : Addr}, TK H H' → A H n a → A H' n a
  szk : ∀ n, sz n = 1 + ((kids n).map sz).sum
  plk : ∀ n, pl n = ([], n) :: plL pl 0 (kids n)
namespace Tre
variable {N : Type} (R : Tre N)
def V (H : Hp) (n : N) (v : L2.V) : Prop := ∃ b, v = .ref b ∧ R.A H n b
def szs (ns : List N) : Nat := (ns.map R.sz).sum
def pre (n : N) : List N := (R.pl n).map (·.2)
def pres (ns : List N) : List N := (ns.map R.pre).flatten
theorem V.tk {R : Tre N} {H H' : Hp} (e : TK H H') {n : N} {v : L2.V} (h : R.V H n v) : R.V H' n v := let ⟨b, e1, h1⟩ := h; ⟨b, e1, R.tk e h1⟩
theorem szs_cons (n : N) (r : List N) : R.szs (n :: r) = R.sz n + R.szs r := rfl
theorem szs_app (a b : List N) : R.szs (a ++ b) = R.szs a + R.szs b := by
  unfold szs
  rw [List.map_append, List.sum_append]
theorem pos (n : N) : 1 ≤ R.sz n := by
  rw [R.szk]
  omega
theorem len_szs : ∀ ns : List N, ns.length ≤ R.szs ns
  | [] => Nat.le_refl _
  | n :: r => by
    have h1 := R.pos n
    have h2 := len_szs r
    rw [R.szs_cons, List.length_cons]
    omega
theorem pres_cons (n : N) (r : List N) : R.pres (n :: r) = R.pre n ++ R.pres r := rfl
theorem pres_app (a b : List N) : R.pres (a ++ b) = R.pres a ++ R.pres b := by
  unfold pres
  rw [List.map_append, List.flatten_append]
theorem plL_snd : ∀ (ns : List N) (j : Nat), (plL R.pl j ns).map (·.2) = R.pres ns
  | [], _ => rfl
  | n :: r, j => by
    show ((R.pl n).map (fun e => ((j : Int) :: e.1, e.2)) ++ plL R.pl (j + 1) r).map (·.2) = R.pre n ++ R.pres r
    rw [List.map_append, plL_snd r, List.map_map]
    rfl
theorem pre_mk (n : N) : R.pre n = n :: R.pres (R.kids n) := by
  unfold pre
  rw [R.plk, List.map_cons, R.plL_snd]
theorem pl_len (m : Nat) : ∀ n, R.sz n ≤ m → (R.pl n).length = R.sz n := by
  induction m with
  | zero => intro n h; have := R.pos n; omega
  | succ m ih =>
    intro n h
    have e := R.szk n
    have go : ∀ (ns : List N) (j : Nat), R.szs ns ≤ m → (plL R.pl j ns).length = R.szs ns := by
      intro ns
      induction ns with
      | nil => intro j _; rfl
      | cons a r ihr =>
        intro j hj
        rw [R.szs_cons] at hj ⊢
        show ((R.pl a).map (fun e => ((j : Int) :: e.1, e.2)) ++ plL R.pl (j + 1) r).length = _
        rw [List.length_append, List.length_map, ihr (j + 1) (by omega), ih a (by omega)]
    rw [R.plk, List.length_cons, go (R.kids n) 0 (by show ((R.kids n).map R.sz).sum ≤ m; omega), e]
    show R.szs (R.kids n) + 1 = 1 + R.szs (R.kids n)
    omega
end Tre
section
variable {P : Program} {w : World} {K : PySem.W.Frag} {mg : Str → Option Value} {base : Heap}
/-- what a function promises that tells the parts right in a part -/
def spKids {N : Type} (R : Tre N) : Sp := fun vs H Q _ => ∃ (n : N) (a : Addr), vs = [.ref a] ∧ R.A H n a ∧ ∀ p H' us, Same H H' → H' p = some (.tup us) → All2 (R.V H') (R.kids n) us → Q (.ref p) H'
/-! ### met -/
def spMet {N : Type} (R : Tre N) (g : Addr) : Sp := fun vs H Q _ => ∃ (n : N) (a : Addr), vs = [.ref a, .ref g] ∧ R.A H n a ∧ R.sz n ≤ 1000 ∧ ∀ p H' its, H p = none → Same H H' → H' p = some (.lst its) → All2 (R.V H') (R.pre n) its → Q (.ref p) H'
abbrev smet : Stmt := top 1
theorem scmet : FnScope ["body", "parts", "found", "waiting", "part"] ["body", "parts"] (defScope smet) := ⟨rfl, rfl, rfl, by decide +kernel, rfl, by decide +kernel, by decide +kernel⟩
def MetW {N : Type} (R : Tre N) (H : Hp) (a g fl wl : Addr) (n : N) (m : Nat) (σ : St) (H' : Hp) : Prop := ∃ o fv fs rs ts, σ = [some (.ref a), some (.ref g), some (.ref fl), some (.ref wl), o] ∧ Same H H' ∧ H' fl = some (.lst fv) ∧ All2 (R.V H') fs fv ∧ H' wl = some (.lst (List.reverse rs)) ∧ All2 (R.V H') ts rs ∧ m = R.szs ts ∧ fs.length + R.szs ts ≤ 1000 ∧ fs ++ R.pres ts = R.pre n
theorem ok_met {N : Type} (R : Tre N) {k : Nat} {f g : Addr} {fd gd : FuncData} {x : Str} (F : Fun K "met" "met" smet f fd) (Gparts : FnOk P w K mg base CX0 k g gd [x] (spKids R)) (kk : PySem.W.keepIn K (.ref g) = true) (bb : Binds K gd [x] []) : FnOk P w K mg base CX0 (k + 1) f fd ["body", "parts"] (spMet R g) := by
  refine F.ok scmet (fun vs H Q E h => ?_) (fun cdv A outer s H vs Q E hr h => ?_)
  · obtain ⟨n, a, rfl, _⟩ := h
    rfl
  obtain ⟨n, a, rfl, hA, hc, q⟩ := h
  refine ⟨_, (pss_cons (ps_set (i := 2) scmet.nd rfl (Or.inl rfl) (pe_lst pa_nil))
    (pss_cons (ps_set (i := 3) scmet.nd rfl (Or.inl rfl) (pe_lst (pa_cons (pv 0) pa_nil)))
    (pss_cons (ps_while PassesOwn.never (pt_truth (pv 3) (by intro _; rfl)) (pss_cons (ps_set (i := 4) scmet.nd rfl (Or.inl rfl) (pe_bm0 PySem.F.plainAttrs_list PySem.F.slot_list_pop PySem.F.type_list_pop mt_pop (pv 3)))
    (pss_cons (ps_expr (pe_bm PySem.F.plainAttrs_list PySem.F.slot_list_append PySem.F.type_list_append mt_append (pv 2) (pa_cons (pv 4) pa_nil)))
    (pss_one (ps_expr (pe_bm PySem.F.plainAttrs_list PySem.F.slot_list_extend PySem.F.type_list_extend mt_extT (pv 3) (pa_cons (pe_revT (pe_callL (i := 1) Gparts (hr.mono (by omega)) rfl (.inl rfl) kk bb .nil pass0 (pa_cons (pv 4) pa_nil)) (po_some (pe_un un_neg pe_int))) pa_nil)))))))
    (pss_one (ps_ret (pv 2)))))), ?_⟩
  refine ⟨sz (by show 0 ≤ 100000; decide), fun fl hfl => ?_⟩
  have s0 := same_new hfl (.lst [])
  have f0 : upd H fl (.lst []) fl = some (.lst []) := upd_same
  refine ⟨_, rfl, sz (by show 1 ≤ 100000; decide), fun wl hwl => ?_⟩
  have s1 := same_new hwl (.lst [.ref a])
  have hwf : fl ≠ wl := ne_of_none f0 hwl
  have sA := s0.trans s1
  refine ⟨MetW R H a g fl wl n, ⟨_, none, [], [], [.ref a], [n], rfl, sA, s1 _ _ f0, trivial, upd_same, ⟨⟨a, rfl, R.tk (tk_same sA) hA⟩, trivial⟩, rfl, ?_, ?_⟩, ?_⟩
  · show 0 + (R.sz n + 0) ≤ 1000
    omega
  · rw [R.pres_cons]
    exact List.append_nil _
  have hw0 : H wl = none := s0.free hwl
  clear s0 f0 hwl s1 sA
  rintro m σ H1 ⟨o, fv, fs, rs, ts, rfl, s1, h1, k1, h2, k2, rfl, hm, hP⟩
  refine ⟨_, rfl, _, .inl ⟨_, SqL.of h2, rfl⟩, ?_⟩
  cases rs with
  | nil =>
    cases ts with
    | cons _ _ => exact k2.elim
    | nil =>
      refine itF rfl ⟨_, rfl, ?_⟩
      have e : fs = R.pre n := by
        rw [← hP]
        exact (List.append_nil fs).symm
      subst e
      exact q _ _ _ hfl s1 h1 k1
  | cons r rs =>
    cases ts with
    | nil => exact k2.elim
    | cons t1 ts =>
      obtain ⟨⟨b, rfl, hb⟩, k3⟩ := k2
      refine itT (by simp) ⟨fun σ' H' => ∃ m', m' < R.szs (t1 :: ts) ∧ MetW R H a g fl wl n m' σ' H', fun _ _ z => z, ?_⟩
      -- part = waiting.pop()
      refine ⟨_, rfl, .inl ⟨rfl, _, SqL.of h2⟩, wl, _, .ref b, rfl, rfl, h2, by simp, ?_⟩
      have eD : ((V.ref b :: rs).reverse).dropLast = rs.reverse := by rw [List.reverse_cons, List.dropLast_concat]
      rw [eD]
      have tk2 : TK H1 (upd H1 wl (.lst rs.reverse)) := tk_put h2
      have s2 : Same H (upd H1 wl (.lst rs.reverse)) := same_mut s1 hw0
      have w2 : upd H1 wl (.lst rs.reverse) wl = some (.lst rs.reverse) := upd_same
      have f2 : upd H1 wl (.lst rs.reverse) fl = some (.lst fv) := by
        rw [upd_ne hwf]
        exact h1
      have k4 := k1.imp fun _ _ z => Tre.V.tk tk2 z
      have k5 := k3.imp fun _ _ z => Tre.V.tk tk2 z
      have b2 := R.tk tk2 hb
      clear tk2
      generalize upd H1 wl (.lst rs.reverse) = H2 at s2 w2 f2 k4 k5 b2
      -- found.append(part)
      have hfs := k4.len
      refine ⟨_, rfl, .inl ⟨rfl, _, SqL.of f2⟩, _, rfl, fl, _, _, rfl, rfl, f2, Nat.lt_of_le_of_lt (m := 1000) (by omega) (by decide), ?_⟩
      have tk3 : TK H2 (upd H2 fl (.lst (fv ++ [.ref b]))) := tk_put f2
      have s3 : Same H (upd H2 fl (.lst (fv ++ [.ref b]))) := same_mut s2 hfl
      have f3 : upd H2 fl (.lst (fv ++ [.ref b])) fl = some (.lst (fv ++ [.ref b])) := upd_same
      have w3 : upd H2 fl (.lst (fv ++ [.ref b])) wl = some (.lst rs.reverse) := by
        rw [upd_ne (Ne.symm hwf)]
        exact w2
      have b3 := R.tk tk3 b2
      have k6 : All2 (R.V _) (fs ++ [t1]) (fv ++ [.ref b]) := (k4.imp fun _ _ z => Tre.V.tk tk3 z).app ⟨⟨b, rfl, b3⟩, trivial⟩
      have k7 := k5.imp fun _ _ z => Tre.V.tk tk3 z
      clear tk3
      generalize upd H2 fl (.lst (fv ++ [.ref b])) = H3 at s3 f3 w3 b3 k6 k7
      -- waiting.extend(parts(part)[::-1])
      have hcm : R.szs (t1 :: ts) = 1 + R.szs (R.kids t1) + R.szs ts := by
        rw [R.szs_cons, R.szk]
        rfl
      refine ⟨_, rfl, .inl ⟨rfl, _, SqL.of w3⟩, rfl, _, rfl, t1, b, rfl, b3, fun p' H4 us s5 h4 kk4 => ?_⟩
      have hlen := kk4.len
      have k8 := k7.imp fun _ _ z => Tre.V.tk (tk_same s5) z
      have hlen2 := k8.len
      have z1 := R.len_szs (R.kids t1)
      have z2 := R.len_szs ts
      refine ⟨1, rfl, -1, rfl, rfl, p', _, rfl, SqT.of h4, fun p5 hp5 => ?_⟩
      have s6 := same_new hp5 (.tup us.reverse)
      have w6 := s6 _ _ (s5 _ _ w3)
      refine ⟨wl, p5, _, _, rfl, rfl, w6, SqT.of upd_same, sz (by rw [List.length_reverse, List.length_reverse]; omega), ?_⟩
      have s7 := s5.trans s6
      have tk8 := (tk_same s6).trans (tk_put (o := .lst (rs.reverse ++ us.reverse)) w6)
      refine ⟨R.szs (R.kids t1 ++ ts), ?_, some (.ref b), fv ++ [.ref b], fs ++ [t1], us ++ rs, R.kids t1 ++ ts, rfl, same_mut (s3.trans s7) hw0, ?_, ?_, ?_, ?_, rfl, ?_, ?_⟩
      · rw [R.szs_app, hcm]
        omega
      · rw [upd_ne hwf]
        exact s7 _ _ f3
      · exact (k6.imp fun _ _ z => Tre.V.tk (tk_same s5) z).imp fun _ _ z => Tre.V.tk tk8 z
      · rw [upd_same, List.reverse_append]
      · exact (kk4.imp fun _ _ z => Tre.V.tk tk8 z).app (k8.imp fun _ _ z => Tre.V.tk tk8 z)
      · rw [List.length_append, List.length_singleton, R.szs_app]
        omega
      · rw [← hP, R.pres_app, R.pres_cons, R.pre_mk]
        simp
end
end KB

namespace KB
open PySem L2 HT

/-! ### new words -/
def digs (k : Nat) : List Nat := (if h : k / 26 = 0 then [] else digs (k / 26)) ++ [97 + k % 26]
termination_by k
decreasing_by omega
theorem digs_eq (k : Nat) : digs k = (if k / 26 = 0 then [] else digs (k / 26)) ++ [97 + k % 26] := by
  rw [digs]
  by_cases h : k / 26 = 0
  · rw [dif_pos h, if_pos h]
  · rw [dif_neg h, if_neg h]
def digs0 (k : Nat) : List Nat := if k = 0 then [] else digs k
theorem digs0_eq {k : Nat} (h : k ≠ 0) : digs0 k = digs0 (k / 26) ++ [97 + k % 26] := by
  unfold digs0
  rw [if_neg h, digs_eq]
theorem digs_digs0 (k : Nat) : digs k = digs0 (k / 26) ++ [97 + k % 26] := digs_eq k
theorem digs_inj : ∀ {a b : Nat}, digs a = digs b → a = b := by
  have go : ∀ n a b : Nat, a ≤ n → digs a = digs b → a = b := by
    intro n
    induction n with
    | zero =>
      intro a b ha h
      have h0 : a = 0 := by omega
      subst h0
      rw [digs_eq 0, digs_eq b] at h
      have h1 : ([] : List Nat) = (if b / 26 = 0 then [] else digs (b / 26)) ∧ [97] = [97 + b % 26] := List.append_inj' h rfl
      have h2 : b % 26 = 0 := by
        have := (List.cons.inj h1.2).1
        omega
      by_cases c : b / 26 = 0
      · omega
      · rw [if_neg c, digs_eq] at h1
        have := congrArg List.length h1.1
        simp at this
    | succ n ih =>
      intro a b ha h
      rw [digs_eq a, digs_eq b] at h
      have h1 := List.append_inj' h rfl
      have h2 : a % 26 = b % 26 := by
        have := (List.cons.inj h1.2).1
        omega
      have ne : ∀ k, digs k ≠ [] := fun k z => by
        rw [digs_eq] at z
        simp at z
      by_cases c : a / 26 = 0
      · by_cases d : b / 26 = 0
        · omega
        · rw [if_pos c, if_neg d] at h1
          exact absurd h1.1.symm (ne _)
      · by_cases d : b / 26 = 0
        · rw [if_neg c, if_pos d] at h1
          exact absurd h1.1 (ne _)
        · rw [if_neg c, if_neg d] at h1
          have := ih (a / 26) (b / 26) (by omega) h1.1
          omega
  intro a b h
  exact go a a b (Nat.le_refl _) h
theorem digs_len : ∀ n k : Nat, k < 26 ^ (n + 1) → (digs k).length ≤ n + 1 := by
  intro n
  induction n with
  | zero =>
    intro k h
    rw [digs_eq, if_pos (by omega)]
    exact Nat.le_refl 1
  | succ n ih =>
    intro k h
    rw [digs_eq, List.length_append, List.length_singleton]
    by_cases c : k / 26 = 0
    · rw [if_pos c]
      simp
    · rw [if_neg c]
      have := ih (k / 26) (by
        rw [Nat.pow_succ] at h
        exact Nat.div_lt_of_lt_mul (by rw [Nat.mul_comm]; exact h))
      omega
def wordOf (k : Nat) : Str := ⟨(digs k ++ [113]).toArray⟩
theorem wordOf_inj {a b : Nat} (h : wordOf a = wordOf b) : a = b := by
  have h1 : (digs a ++ [113]).toArray = (digs b ++ [113]).toArray := congrArg Str.cps h
  have h2 := congrArg Array.toList h1
  exact digs_inj (List.append_inj' h2 rfl).1
theorem wordOf_home (k : Nat) : wordOf k ≠ "home" := by
  intro h
  have h1 : (digs k ++ [113]).toArray = (Str.ofString "home").cps := congrArg Str.cps h
  have h2 := congrArg Array.toList h1
  have h3 : (digs k ++ [113]).getLast? = some 113 := by rw [List.getLast?_append]; rfl
  have h4 : (digs k ++ [113]) = (Str.ofString "home").cps.toList := h2
  rw [h4] at h3
  revert h3
  decide +kernel
theorem pig {α : Type} [DecidableEq α] : ∀ {l l' : List α}, l.Nodup → (∀ x ∈ l, x ∈ l') → l.length ≤ l'.length
  | [], _, _, _ => Nat.zero_le _
  | x :: r, l', hn, h => by
    have hx := h x List.mem_cons_self
    obtain ⟨hn1, hn2⟩ := List.nodup_cons.mp hn
    have := pig (l := r) (l' := l'.erase x) hn2 fun y hy => (List.mem_erase_of_ne (by intro z; subst z; exact hn1 hy)).mpr (h y (List.mem_cons_of_mem _ hy))
    rw [List.length_erase_of_mem hx] at this
    have hp : 0 < l'.length := List.length_pos_of_mem hx
    rw [List.length_cons]
    omega
theorem free_word (tk : List Str) (m : Nat) : ∃ k, m ≤ k ∧ k ≤ m + tk.length ∧ wordOf k ∉ tk := by
  by_cases h : ∃ i, i < tk.length + 1 ∧ wordOf (m + i) ∉ tk
  · obtain ⟨i, h1, h2⟩ := h
    exact ⟨m + i, by omega, by omega, h2⟩
  · have hall : ∀ x ∈ (List.range (tk.length + 1)).map fun i => wordOf (m + i), x ∈ tk := fun x hx => by
      obtain ⟨i, hi, rfl⟩ := List.mem_map.mp hx
      by_cases c : wordOf (m + i) ∈ tk
      · exact c
      · exact absurd ⟨i, List.mem_range.mp hi, c⟩ h
    have hnd : ((List.range (tk.length + 1)).map fun i => wordOf (m + i)).Nodup := by
      rw [List.nodup_iff_pairwise_ne, List.pairwise_map]
      refine List.Pairwise.imp ?_ List.nodup_range
      intro a b hab z
      exact hab (by have := wordOf_inj z; omega)
    have := pig hnd hall
    rw [List.length_map, List.length_range] at this
    omega
/-- a new word, and the count behind it -/
def NwR (tk : List Str) (m : Nat) (w : Str) (m' : Nat) : Prop := ∃ k, m ≤ k ∧ k ≤ m + tk.length ∧ w = wordOf k ∧ w ∉ tk ∧ m' = k + 1 ∧ ∀ i, m ≤ i → i < k → wordOf i ∈ tk

section
variable {P : Program} {w : World} {K : PySem.W.Frag} {mg : Str → Option Value} {base : Heap}
/-! ### word_of -/
structure TxS (K : PySem.W.Frag) (mg : Str → Option Value) : Prop where
  signs : ∃ t, mg "SIGNS" = some (.str lettersS t)
  behind : ∃ t, mg "BEHIND" = some (.str "q" t)
  home : ∃ t, mg "HOME" = some (.str "home" t)
def spWordOf : Sp := fun vs H Q _ => ∃ k : Nat, vs = [.int (k : Int)] ∧ k < 26 ^ 9 ∧ Q (.str (wordOf k)) H
abbrev sword_of : Stmt := top 10
theorem scword_of : FnScope ["k", "word", "rest"] ["k"] (defScope sword_of) := ⟨rfl, rfl, rfl, by decide +kernel, rfl, by decide +kernel, by decide +kernel⟩
theorem str_cons (c : Nat) (l : List Nat) : (⟨#[c]⟩ : Str) ++ ⟨l.toArray⟩ = ⟨(c :: l).toArray⟩ := by
  show (⟨#[c] ++ l.toArray⟩ : Str) = _
  congr 1
  simp
theorem ok_wordOf (T : Txt K mg) (S : TxS K mg) {f : Addr} {fd : FuncData} (F : Fun K "word_of" "word_of" sword_of f fd) : FnOk P w K mg base CX0 1 f fd ["k"] spWordOf := by
  refine F.ok scword_of (fun vs H Q E h => ?_) (fun cdv A outer s H vs Q E hr h => ?_)
  · obtain ⟨k, rfl, _⟩ := h
    rfl
  obtain ⟨k, rfl, hk, q⟩ := h
  obtain ⟨t1, hs⟩ := S.signs
  obtain ⟨t2, hb⟩ := S.behind
  refine ⟨_, (pss_cons (ps_set (i := 1) scword_of.nd rfl (Or.inl rfl) (pe_op op_add_str (pe_ix ix_str (pe_glob (v := .str lettersS) rfl hs ⟨_, rfl⟩) (pe_op op_mod (pv 0) (pe_callB call_len (by rfl) T.m_len PySem.boot_len (pa_cons (pe_glob (v := .str lettersS) rfl hs ⟨_, rfl⟩) pa_nil))) (fun _ _ => rfl)) (pe_glob (v := .str "q") rfl hb ⟨_, rfl⟩)))
    (pss_cons (ps_set (i := 2) scword_of.nd rfl (Or.inl rfl) (pe_op op_fdivW (pv 0) (pe_callB call_len (by rfl) T.m_len PySem.boot_len (pa_cons (pe_glob (v := .str lettersS) rfl hs ⟨_, rfl⟩) pa_nil))))
    (pss_cons (ps_while PassesOwn.never (pt_cmpR op_gt (pv 2) pe_int (nomark _)) (pss_cons (ps_set (i := 1) scword_of.nd rfl (Or.inl rfl) (pe_op op_add_str (pe_ix ix_str (pe_glob (v := .str lettersS) rfl hs ⟨_, rfl⟩) (pe_op op_mod (pv 2) (pe_callB call_len (by rfl) T.m_len PySem.boot_len (pa_cons (pe_glob (v := .str lettersS) rfl hs ⟨_, rfl⟩) pa_nil))) (fun _ _ => rfl)) (pv 1)))
    (pss_one (ps_set (i := 2) scword_of.nd rfl (Or.inl rfl) (pe_op op_fdivW (pv 2) (pe_callB call_len (by rfl) T.m_len PySem.boot_len (pa_cons (pe_glob (v := .str lettersS) rfl hs ⟨_, rfl⟩) pa_nil)))))))
    (pss_one (ps_ret (pv 1)))))), ?_⟩
  have hl26 : lettersS.length = 26 := by decide +kernel
  have hd10 : (digs k ++ [113]).length ≤ 10 := by
    rw [List.length_append]
    have := digs_len 8 k hk
    show (digs k).length + 1 ≤ 10
    omega
  have lenW : LenV K (.str lettersS) H 26 := ⟨by decide +kernel, hl26.symm⟩
  refine ⟨_, rfl, _, _, rfl, lenW, _, _, rfl, rfl, (by show (0 : Int) < 26; decide), lettersS, _, _, rfl, rfl, (by decide +kernel), letters_at (Int.emod_nonneg _ (by decide)) (Int.emod_lt_of_pos _ (by decide)), _, _, rfl, rfl, sz (by show 1 + 1 ≤ 100000; decide), ?_⟩
  refine ⟨_, rfl, _, _, rfl, lenW, _, _, rfl, rfl, ⟨by decide, log_many (by decide) (by decide)⟩, ?_⟩
  refine ⟨fun m σ H' => ∃ (r : Nat) (l : List Nat), σ = [some (.int (k : Int)), some (.str ⟨l.toArray⟩), some (.int (r : Int))] ∧ H = H' ∧ r = m ∧ digs0 r ++ l = digs k ++ [113], ⟨_, k / 26, [97 + k % 26, 113], ?_, rfl, rfl, ?_⟩, ?_⟩
  · congr 3
  · rw [digs_digs0 k]
    simp
  rintro m σ H' ⟨r, l, rfl, rfl, rfl, e⟩
  refine ⟨_, rfl, _, _, rfl, rfl, _, rfl, ?_⟩
  by_cases c : r = 0
  · subst c
    refine itF (decide_eq_false (by omega)) ⟨_, rfl, ?_⟩
    have e2 : l = digs k ++ [113] := e
    rw [e2]
    exact q
  · refine itT (decide_eq_true (by omega)) ⟨fun σ' H' => ∃ m', m' < r ∧ ∃ (r' : Nat) (l : List Nat), σ' = [some (.int (k : Int)), some (.str ⟨l.toArray⟩), some (.int (r' : Int))] ∧ H = H' ∧ r' = m' ∧ digs0 r' ++ l = digs k ++ [113], fun _ _ z => z, ?_⟩
    have hll : l.length ≤ 10 := by
      have := congrArg List.length e
      rw [List.length_append] at this
      omega
    refine ⟨_, rfl, _, _, rfl, lenW, _, _, rfl, rfl, (by show (0 : Int) < 26; decide), lettersS, _, _, rfl, rfl, (by decide +kernel), letters_at (Int.emod_nonneg _ (by decide)) (Int.emod_lt_of_pos _ (by decide)), _, rfl, _, _, rfl, rfl, sz (by show 1 + l.toArray.size ≤ 100000; rw [List.size_toArray]; omega), ?_⟩
    refine ⟨_, rfl, _, _, rfl, lenW, _, _, rfl, rfl, ⟨by decide, log_many (by decide) (by decide)⟩, ?_⟩
    refine ⟨r / 26, by omega, r / 26, (97 + r % 26) :: l, ?_, rfl, rfl, ?_⟩
    · rw [str_cons]
      congr 4
    · rw [← e, digs0_eq c]
      simp
end
end KB

namespace KB
open PySem L2 HT

/-! ### the turning of a body as a machine of data -/
inductive Ld | lett (x : Str) (s : Tm) | tell (x : Str) (s : Tm) | post (j x : Str) (u : Pt)
def putAh : List Ld → Pt → Pt
  | [], p => p
  | .lett x s :: r, p => .lett x s (putAh r p)
  | .tell x s :: r, p => .tell x s (putAh r p)
  | .post j x u :: r, p => .post j x (putAh r p) u
inductive Gt | t (s : Tm) | p (q : Pt)
inductive Jb | row | done (t : Tm) (j : Str) | put (t : Tm) (x : Str) | simple (t : Tm) | known (t : Tm) | close | lett (x : Str) | tell (x : Str) | post (j x : Str)
  | ask (f : Str) (n : Nat) (j : Str) | give (j : Str) | iff | op (l : Bool)
structure Cg where
  jobs : List Jb
  rows : List (List Ld)
  got : List Gt
  m : Nat
def endJ (t : Tm) (j : Str) : List Jb :=
  match hdT t, kidsT t with
  | .ask f, ts => ts.map Jb.simple ++ [.ask f ts.length j]
  | .iff, [a, b, c] => [.simple a, .row, .done b j, .row, .done c j, .iff]
  | _, _ => [.simple t, .give j]
def doneJ (t : Tm) (j : Str) : List Jb :=
  match hdT t, kidsT t with
  | .lett x, [a, b] => [.put a x, .done b j]
  | _, _ => endJ t j ++ [.close]
def plainH : Hd → Bool
  | .ask _ | .iff | .tell | .lett _ => false
  | _ => true
def wordH : Hd → Bool
  | .ask _ | .iff => true
  | _ => false
/-- a term put under x, w a new word where one is asked for -/
def putJ (t : Tm) (x w : Str) : List Jb :=
  match hdT t, kidsT t with
  | .lett y, [a, b] => [.put a y, .put b x]
  | .ask _, _ => endJ t w ++ [.post w x]
  | .iff, _ => endJ t w ++ [.post w x]
  | .tell, [a] => [.simple a, .tell x]
  | _, _ => [.simple t, .lett x]
def simpJ (t : Tm) (w : Str) : List Jb :=
  match hdT t, kidsT t with
  | .num _, _ => [.known t]
  | .nam _, _ => [.known t]
  | .plus, [a, b] => [.simple a, .simple b, .op false]
  | .less, [a, b] => [.simple a, .simple b, .op true]
  | .lett y, [a, b] => [.put a y, .simple b]
  | _, _ => [.put t w, .known (mkL (.nam w) [])]
/-- whether simpJ asks for a new word -/
def wordS : Hd → Bool
  | .ask _ | .iff | .tell => true
  | _ => false
def mkOp (l : Bool) (a b : Tm) : Tm := mkL (if l then .less else .plus) [a, b]
/-- one job that is finished -/
inductive FinJ : Jb → List (List Ld) → List Gt → List (List Ld) → List Gt → Prop
  | row {R G} : FinJ .row R G ([] :: R) G
  | close {r R q G} : FinJ .close (r :: R) (.p q :: G) R (.p (putAh r q) :: G)
  | lett {x r R s G} : FinJ (.lett x) (r :: R) (.t s :: G) ((r ++ [.lett x s]) :: R) G
  | tell {x r R s G} : FinJ (.tell x) (r :: R) (.t s :: G) ((r ++ [.tell x s]) :: R) G
  | post {j x r R q G} : FinJ (.post j x) (r :: R) (.p q :: G) ((r ++ [.post j x q]) :: R) G
  | known {t R G} : FinJ (.known t) R G R (.t t :: G)
  | ask {f j ts R G} : FinJ (.ask f ts.length j) R ((ts.map Gt.t).reverse ++ G) R (.p (.ask f ts j) :: G)
  | give {j s R G} : FinJ (.give j) R (.t s :: G) R (.p (.give j s) :: G)
  | iff {a b c R G} : FinJ .iff R (.p c :: .p b :: .t a :: G) R (.p (.iff a b c) :: G)
  | op {l a b R G} : FinJ (.op l) R (.t b :: .t a :: G) R (.t (mkOp l a b) :: G)
/-- what comes of a row of jobs -/
inductive Run (tk : List Str) : List Jb → List (List Ld) → List Gt → Nat → List (List Ld) → List Gt → Nat → Prop
  | nil {R G m} : Run tk [] R G m R G m
  | fin {j J R G m R1 G1 R2 G2 m2} : FinJ j R G R1 G1 → Run tk J R1 G1 m R2 G2 m2 → Run tk (j :: J) R G m R2 G2 m2
  | done {t j J R G m R2 G2 m2} : Run tk (doneJ t j ++ J) R G m R2 G2 m2 → Run tk (.done t j :: J) R G m R2 G2 m2
  | put {t x w J R G m m1 R2 G2 m2} : (wordH (hdT t) = true → NwR tk m w m1) → (wordH (hdT t) = false → m1 = m) → Run tk (putJ t x w ++ J) R G m1 R2 G2 m2 → Run tk (.put t x :: J) R G m R2 G2 m2
  | simple {t w J R G m m1 R2 G2 m2} : (wordS (hdT t) = true → NwR tk m w m1) → (wordS (hdT t) = false → m1 = m) → Run tk (simpJ t w ++ J) R G m1 R2 G2 m2 → Run tk (.simple t :: J) R G m R2 G2 m2
theorem Run.split {tk : List Str} {J : List Jb} {R G m R2 G2 m2} (h : Run tk J R G m R2 G2 m2) : ∀ {J1 J2 : List Jb}, J = J1 ++ J2 → ∃ R1 G1 m1, Run tk J1 R G m R1 G1 m1 ∧ Run tk J2 R1 G1 m1 R2 G2 m2 := by
  induction h with
  | nil =>
    intro J1 J2 e
    obtain ⟨rfl, rfl⟩ := List.append_eq_nil_iff.mp e.symm
    exact ⟨_, _, _, .nil, .nil⟩
  | fin f h ih =>
    intro J1 J2 e
    cases J1 with
    | nil => subst e; exact ⟨_, _, _, .nil, .fin f h⟩
    | cons a r =>
      obtain ⟨e1, e2⟩ := List.cons.inj e
      subst e1
      obtain ⟨R1, G1, m1, a1, a2⟩ := ih e2
      exact ⟨_, _, _, .fin f a1, a2⟩
  | @done t j J R G m R2 G2 m2 h ih =>
    intro J1 J2 e
    cases J1 with
    | nil => subst e; exact ⟨_, _, _, .nil, .done h⟩
    | cons a r =>
      obtain ⟨e1, e2⟩ := List.cons.inj e
      subst e1
      obtain ⟨R1, G1, m1, a1, a2⟩ := ih (J1 := doneJ t j ++ r) (J2 := J2) (by rw [e2]; exact (List.append_assoc _ r J2).symm)
      exact ⟨_, _, _, .done a1, a2⟩
  | @put t x w J R G m m1 R2 G2 m2 h1 h2 h ih =>
    intro J1 J2 e
    cases J1 with
    | nil => subst e; exact ⟨_, _, _, .nil, .put h1 h2 h⟩
    | cons a r =>
      obtain ⟨e1, e2⟩ := List.cons.inj e
      subst e1
      obtain ⟨R1, G1, m1, a1, a2⟩ := ih (J1 := putJ t x w ++ r) (J2 := J2) (by rw [e2]; exact (List.append_assoc _ r J2).symm)
      exact ⟨_, _, _, .put h1 h2 a1, a2⟩
  | @simple t w J R G m m1 R2 G2 m2 h1 h2 h ih =>
    intro J1 J2 e
    cases J1 with
    | nil => subst e; exact ⟨_, _, _, .nil, .simple h1 h2 h⟩
    | cons a r =>
      obtain ⟨e1, e2⟩ := List.cons.inj e
      subst e1
      obtain ⟨R1, G1, m1, a1, a2⟩ := ih (J1 := simpJ t w ++ r) (J2 := J2) (by rw [e2]; exact (List.append_assoc _ r J2).symm)
      exact ⟨_, _, _, .simple h1 h2 a1, a2⟩
/-! ### how much is left to be done -/
def wS (t : Tm) : Nat := 20 * cnt t + (if wordS (hdT t) = true then 2 else 0)
def wP (t : Tm) : Nat := 20 * cnt t + (if wordS (hdT t) = true then 0 else 2)
def wD (t : Tm) : Nat := 20 * cnt t + 5
def wJ : Jb → Nat
  | .done t _ => wD t
  | .put t _ => wP t
  | .simple t => wS t
  | _ => 1
def wJs (J : List Jb) : Nat := (J.map wJ).sum
theorem wJs_cons (j : Jb) (J : List Jb) : wJs (j :: J) = wJ j + wJs J := rfl
theorem wJs_app (a b : List Jb) : wJs (a ++ b) = wJs a + wJs b := by
  unfold wJs
  rw [List.map_append, List.sum_append]
theorem wJ_pos (j : Jb) : 1 ≤ wJ j := by
  cases j with
  | done t j => show 1 ≤ 20 * cnt t + 5; omega
  | put t x => have := cnt_pos t; show 1 ≤ 20 * cnt t + _; omega
  | simple t => have := cnt_pos t; show 1 ≤ 20 * cnt t + _; omega
  | _ => exact Nat.le_refl 1
theorem len_wJs : ∀ J : List Jb, J.length ≤ wJs J
  | [] => Nat.le_refl _
  | j :: r => by
    have := len_wJs r
    have := wJ_pos j
    rw [wJs_cons, List.length_cons]
    omega
theorem cnt_kids (t : Tm) : cnt t = 1 + cnts (kidsT t) := by
  cases t with
  | mk h n k => exact cnt_mk
theorem wS_le (t : Tm) : wS t ≤ 20 * cnt t + 2 := by
  unfold wS
  split <;> omega
theorem wP_le (t : Tm) : wP t ≤ 20 * cnt t + 2 := by
  unfold wP
  split <;> omega
theorem w_simples : ∀ ts : List Tm, wJs (ts.map Jb.simple) ≤ 20 * cnts ts + 2 * ts.length
  | [] => Nat.le_refl _
  | t :: r => by
    have := w_simples r
    have := wS_le t
    rw [List.map_cons, wJs_cons, cnts_cons, List.length_cons]
    show wS t + _ ≤ _
    omega
/-- the number of parts that a term of this kind has -/
def arH : Hd → Nat → Prop
  | .num _, n => n = 0
  | .nam _, n => n = 0
  | .plus, n => n = 2
  | .less, n => n = 2
  | .tell, n => n = 1
  | .lett _, n => n = 2
  | .iff, n => n = 3
  | .ask _, n => n ≤ 4
def arN (t : Tm) : Prop := arH (hdT t) (kidsT t).length
theorem Lay.ar {H : Hp} {a : Addr} {h : Hd} {xs : List V} (l : Lay H a h xs) : arH h xs.length := by
  cases h with
  | num z => rw [l.1]; rfl
  | nam z => rw [l.1]; rfl
  | ask f => exact l.1
  | _ => exact l.1
theorem two_of {α : Type} {l : List α} (h : l.length = 2) : ∃ a b, l = [a, b] := by
  match l, h with
  | [a, b], _ => exact ⟨a, b, rfl⟩
theorem three_of {α : Type} {l : List α} (h : l.length = 3) : ∃ a b c, l = [a, b, c] := by
  match l, h with
  | [a, b, c], _ => exact ⟨a, b, c, rfl⟩
theorem one_of {α : Type} {l : List α} (h : l.length = 1) : ∃ a, l = [a] := by
  match l, h with
  | [a], _ => exact ⟨a, rfl⟩
theorem w_end (t : Tm) (j : Str) (h : arN t) : wJs (endJ t j) ≤ 20 * cnt t + 3 ∧ (wordH (hdT t) = true → wJs (endJ t j) + 3 ≤ 20 * cnt t) := by
  have hc := cnt_kids t
  unfold arN at h
  unfold endJ
  cases hh : hdT t with
  | ask f =>
    rw [hh] at h
    have h4 : (kidsT t).length ≤ 4 := h
    have := w_simples (kidsT t)
    show wJs ((kidsT t).map Jb.simple ++ [.ask f (kidsT t).length j]) ≤ _ ∧ (_ → wJs ((kidsT t).map Jb.simple ++ [.ask f (kidsT t).length j]) + 3 ≤ _)
    rw [wJs_app]
    have e : wJs [Jb.ask f (kidsT t).length j] = 1 := rfl
    omega
  | iff =>
    rw [hh] at h
    obtain ⟨a, b, c, e⟩ := three_of (show (kidsT t).length = 3 from h)
    rw [e] at hc ⊢
    have e2 : cnts [a, b, c] = cnt a + (cnt b + (cnt c + 0)) := rfl
    have := wS_le a
    show (wS a + (1 + (wD b + (1 + (wD c + (1 + 0)))))) ≤ _ ∧ (_ → (wS a + (1 + (wD b + (1 + (wD c + (1 + 0)))))) + 3 ≤ _)
    unfold wD
    omega
  | _ =>
    have := wS_le t
    refine ⟨?_, fun z => nomatch z⟩
    show wS t + (1 + 0) ≤ _
    omega
theorem w_done (t : Tm) (j : Str) (h : arN t) : wJs (doneJ t j) < wD t := by
  have he := w_end t j h
  have hc := cnt_kids t
  unfold doneJ wD
  unfold arN at h
  cases hh : hdT t with
  | lett x =>
    rw [hh] at h
    obtain ⟨a, b, e⟩ := two_of (show (kidsT t).length = 2 from h)
    rw [e] at hc ⊢
    have e2 : cnts [a, b] = cnt a + (cnt b + 0) := rfl
    have := wP_le a
    show wP a + (wD b + 0) < _
    unfold wD
    omega
  | _ =>
    show wJs (endJ t j ++ [.close]) < _
    rw [wJs_app]
    have e : wJs [Jb.close] = 1 := rfl
    omega
theorem w_put (t : Tm) (x w : Str) (h : arN t) : wJs (putJ t x w) < wP t := by
  have he := w_end t w h
  have hc := cnt_kids t
  unfold arN at h
  unfold putJ
  cases hh : hdT t with
  | lett y =>
    rw [hh] at h
    obtain ⟨a, b, e⟩ := two_of (show (kidsT t).length = 2 from h)
    rw [e] at hc ⊢
    have e2 : cnts [a, b] = cnt a + (cnt b + 0) := rfl
    have := wP_le a
    have := wP_le b
    have e3 : wP t = 20 * cnt t + 2 := by unfold wP; rw [hh]; rfl
    show wP a + (wP b + 0) < _
    omega
  | ask f =>
    have e3 : wP t = 20 * cnt t := by unfold wP; rw [hh]; rfl
    have := he.2 (by rw [hh]; rfl)
    show wJs (endJ t w ++ [.post w x]) < _
    rw [wJs_app]
    have e : wJs [Jb.post w x] = 1 := rfl
    omega
  | iff =>
    have e3 : wP t = 20 * cnt t := by unfold wP; rw [hh]; rfl
    have := he.2 (by rw [hh]; rfl)
    show wJs (endJ t w ++ [.post w x]) < _
    rw [wJs_app]
    have e : wJs [Jb.post w x] = 1 := rfl
    omega
  | tell =>
    rw [hh] at h
    obtain ⟨a, e⟩ := one_of (show (kidsT t).length = 1 from h)
    rw [e] at hc ⊢
    have e2 : cnts [a] = cnt a + 0 := rfl
    have := wS_le a
    have e3 : wP t = 20 * cnt t := by unfold wP; rw [hh]; rfl
    show wS a + (1 + 0) < _
    omega
  | _ =>
    have e3 : wP t = 20 * cnt t + 2 := by unfold wP; rw [hh]; rfl
    have e4 : wS t = 20 * cnt t := by unfold wS; rw [hh]; rfl
    show wS t + (1 + 0) < _
    omega
theorem w_simple (t : Tm) (w : Str) (h : arN t) : wJs (simpJ t w) < wS t := by
  have hc := cnt_kids t
  unfold arN at h
  unfold simpJ
  have plain : ∀ l : Bool, (kidsT t).length = 2 → wS t = 20 * cnt t → ∃ a b, kidsT t = [a, b] ∧ wJs [.simple a, .simple b, .op l] < wS t := fun l h2 e3 => by
    obtain ⟨a, b, e⟩ := two_of h2
    rw [e] at hc
    have e2 : cnts [a, b] = cnt a + (cnt b + 0) := rfl
    have := wS_le a
    have := wS_le b
    refine ⟨a, b, e, ?_⟩
    show wS a + (wS b + (1 + 0)) < _
    omega
  cases hh : hdT t with
  | num z => have e3 : wS t = 20 * cnt t := by unfold wS; rw [hh]; rfl
             show 1 + 0 < _; omega
  | nam z => have e3 : wS t = 20 * cnt t := by unfold wS; rw [hh]; rfl
             show 1 + 0 < _; omega
  | plus =>
    rw [hh] at h
    obtain ⟨a, b, e, h9⟩ := plain false h (by unfold wS; rw [hh]; rfl)
    rw [e]
    exact h9
  | less =>
    rw [hh] at h
    obtain ⟨a, b, e, h9⟩ := plain true h (by unfold wS; rw [hh]; rfl)
    rw [e]
    exact h9
  | lett y =>
    rw [hh] at h
    obtain ⟨a, b, e⟩ := two_of (show (kidsT t).length = 2 from h)
    rw [e] at hc ⊢
    have e2 : cnts [a, b] = cnt a + (cnt b + 0) := rfl
    have := wP_le a
    have := wS_le b
    have e3 : wS t = 20 * cnt t := by unfold wS; rw [hh]; rfl
    show wP a + (wS b + 0) < _
    omega
  | _ =>
    have e3 : wS t = 20 * cnt t + 2 := by unfold wS; rw [hh]; rfl
    have e4 : wP t = 20 * cnt t := by unfold wP; rw [hh]; rfl
    show wP t + (1 + 0) < _
    omega
/-! ### nothing is left over, nothing is lacking -/
def okJ : List Jb → Nat → List Bool → Prop
  | [], r, g => r = 0 ∧ g = [true]
  | .row :: J, r, g => okJ J (r + 1) g
  | .done _ _ :: J, r, g => ∃ r', r = r' + 1 ∧ okJ J r' (true :: g)
  | .put _ _ :: J, r, g => 0 < r ∧ okJ J r g
  | .simple _ :: J, r, g => 0 < r ∧ okJ J r (false :: g)
  | .known _ :: J, r, g => okJ J r (false :: g)
  | .close :: J, r, g => ∃ r' g', r = r' + 1 ∧ g = true :: g' ∧ okJ J r' (true :: g')
  | .lett _ :: J, r, g => ∃ g', 0 < r ∧ g = false :: g' ∧ okJ J r g'
  | .tell _ :: J, r, g => ∃ g', 0 < r ∧ g = false :: g' ∧ okJ J r g'
  | .post _ _ :: J, r, g => ∃ g', 0 < r ∧ g = true :: g' ∧ okJ J r g'
  | .ask _ n _ :: J, r, g => ∃ g', g = List.replicate n false ++ g' ∧ okJ J r (true :: g')
  | .give _ :: J, r, g => ∃ g', g = false :: g' ∧ okJ J r (true :: g')
  | .iff :: J, r, g => ∃ g', g = true :: true :: false :: g' ∧ okJ J r (true :: g')
  | .op _ :: J, r, g => ∃ g', g = false :: false :: g' ∧ okJ J r (false :: g')
def kG : Gt → Bool
  | .t _ => false
  | .p _ => true
theorem ok_simples {J : List Jb} {r : Nat} (hr : 0 < r) : ∀ (ts : List Tm) (g : List Bool), okJ J r (List.replicate ts.length false ++ g) → okJ (ts.map Jb.simple ++ J) r g
  | [], g, h => h
  | t :: ts, g, h => by
    refine ⟨hr, ok_simples hr ts (false :: g) ?_⟩
    have e : List.replicate ts.length false ++ false :: g = List.replicate (t :: ts).length false ++ g := by
      rw [List.length_cons, List.replicate_succ']
      simp
    rw [e]
    exact h
theorem ok_end {t : Tm} {j : Str} {J : List Jb} {r : Nat} {g : List Bool} (h : arN t) (hr : 0 < r) (o : okJ J r (true :: g)) : okJ (endJ t j ++ J) r g := by
  unfold arN at h
  unfold endJ
  cases hh : hdT t with
  | ask f =>
    show okJ (((kidsT t).map Jb.simple ++ [.ask f (kidsT t).length j]) ++ J) r g
    rw [List.append_assoc]
    exact ok_simples hr _ g ⟨g, rfl, o⟩
  | iff =>
    rw [hh] at h
    obtain ⟨a, b, c, e⟩ := three_of (show (kidsT t).length = 3 from h)
    rw [e]
    exact ⟨hr, r, rfl, r, rfl, g, rfl, o⟩
  | _ => exact ⟨hr, g, rfl, o⟩
theorem ok_done {t : Tm} {j : Str} {J : List Jb} {r : Nat} {g : List Bool} (h : arN t) (o : okJ (.done t j :: J) r g) : okJ (doneJ t j ++ J) r g := by
  obtain ⟨r', rfl, o⟩ := o
  have he : okJ ((endJ t j ++ [.close]) ++ J) (r' + 1) g := by
    rw [List.append_assoc]
    exact ok_end h (Nat.succ_pos _) ⟨r', g, rfl, rfl, o⟩
  unfold arN at h
  unfold doneJ
  cases hh : hdT t with
  | lett x =>
    rw [hh] at h
    obtain ⟨a, b, e⟩ := two_of (show (kidsT t).length = 2 from h)
    rw [e]
    exact ⟨Nat.succ_pos _, r', rfl, o⟩
  | _ => exact he
theorem ok_put {t : Tm} {x w : Str} {J : List Jb} {r : Nat} {g : List Bool} (h : arN t) (o : okJ (.put t x :: J) r g) : okJ (putJ t x w ++ J) r g := by
  obtain ⟨hr, o⟩ := o
  have he : okJ ((endJ t w ++ [.post w x]) ++ J) r g := by
    rw [List.append_assoc]
    exact ok_end h hr ⟨g, hr, rfl, o⟩
  unfold arN at h
  unfold putJ
  cases hh : hdT t with
  | lett y =>
    rw [hh] at h
    obtain ⟨a, b, e⟩ := two_of (show (kidsT t).length = 2 from h)
    rw [e]
    exact ⟨hr, hr, o⟩
  | ask f => exact he
  | iff => exact he
  | tell =>
    rw [hh] at h
    obtain ⟨a, e⟩ := one_of (show (kidsT t).length = 1 from h)
    rw [e]
    exact ⟨hr, g, hr, rfl, o⟩
  | _ => exact ⟨hr, g, hr, rfl, o⟩
theorem ok_simp {t : Tm} {w : Str} {J : List Jb} {r : Nat} {g : List Bool} (h : arN t) (o : okJ (.simple t :: J) r g) : okJ (simpJ t w ++ J) r g := by
  obtain ⟨hr, o⟩ := o
  unfold arN at h
  unfold simpJ
  cases hh : hdT t with
  | num z => exact o
  | nam z => exact o
  | plus =>
    rw [hh] at h
    obtain ⟨a, b, e⟩ := two_of (show (kidsT t).length = 2 from h)
    rw [e]
    exact ⟨hr, hr, g, rfl, o⟩
  | less =>
    rw [hh] at h
    obtain ⟨a, b, e⟩ := two_of (show (kidsT t).length = 2 from h)
    rw [e]
    exact ⟨hr, hr, g, rfl, o⟩
  | lett y =>
    rw [hh] at h
    obtain ⟨a, b, e⟩ := two_of (show (kidsT t).length = 2 from h)
    rw [e]
    exact ⟨hr, hr, o⟩
  | _ => exact ⟨hr, o⟩
end KB

namespace KB
open PySem L2 HT

theorem tk_upd {H : Hp} {p : Addr} {o o' : HO} (h : H p = some o) (n : ∀ xs, o ≠ .tup xs) : TK H (upd H p o') := fun a xs e => by
  rw [upd_ne (ne_of e h (fun z => n xs z.symm))]
  exact e
structure TxN (K : PySem.W.Frag) (mg : Str → Option Value) (CN CT : Addr) : Prop where
  clN : Cls K CN
  nTaken : NoAttr K CN "taken"
  nMany : NoAttr K CN "many"
  clT : Cls K CT
  tNew : NoAttr K CT "new_words"
  tJobs : NoAttr K CT "jobs"
  tRows : NoAttr K CT "rows"
  tGot : NoAttr K CT "got"
  mgN : mg "NewWords" = some (.ref CN)
  mgT : mg "Turning" = some (.ref CT)
def fsN (t m : V) : List (Str × V) := [("taken", t), ("many", m)]
def fsT (w j r g : V) : List (Str × V) := [("new_words", w), ("jobs", j), ("rows", r), ("got", g)]
theorem n_many (t m v : V) : putF "many" v (fsN t m) = fsN t v := by rfl
def Tkn (H : Hp) (td : Addr) (tk : List Str) : Prop := ∃ kvs, H td = some (.dK kvs) ∧ ∀ x : Str, (valV kvs (Sum.inr x)).isSome = decide (x ∈ tk)
structure NWAt (CN : Addr) (H : Hp) (p dx td : Addr) (tk : List Str) (m : Nat) : Prop where
  ob : H p = some (.ins CN dx (fsN (.ref td) (.int (m : Int))))
  tk : Tkn H td tk
theorem NWAt.ne {CN : Addr} {H : Hp} {p dx td : Addr} {tk : List Str} {m : Nat} (h : NWAt CN H p dx td tk m) : td ≠ p := by
  obtain ⟨kvs, h1, _⟩ := h.tk
  exact ne_of h1 h.ob (by intro z; cases z)
theorem NWAt.put {CN : Addr} {H : Hp} {p dx td : Addr} {tk : List Str} {m : Nat} (h : NWAt CN H p dx td tk m) (m' : Nat) : NWAt CN (upd H p (.ins CN dx (fsN (.ref td) (.int (m' : Int))))) p dx td tk m' := by
  refine ⟨upd_same, ?_⟩
  obtain ⟨kvs, h1, h2⟩ := h.tk
  exact ⟨kvs, by rw [upd_ne h.ne]; exact h1, h2⟩

section
variable {P : Program} {w : World} {K : PySem.W.Frag} {mg : Str → Option Value} {base : Heap} {CN CT : Addr}
/-! ### NewWords -/
def spNew0 (CN : Addr) : Sp := fun vs H Q _ => ∃ (p dx tl : Addr) (tk : List Str), vs = [.ref p, .ref tl] ∧ H p = some (.ins CN dx []) ∧ H tl = some (.lst (tk.map V.str)) ∧ tk.length ≤ 1000 ∧
  ∀ H' td, (∀ b o, b ≠ p → H b = some o → H' b = some o) → H td = none → NWAt CN H' p dx td tk 0 → Q .non H'
abbrev sNew0 : Stmt := inClass (top 12) 0
theorem scNew0 : FnScope ["self", "taken", "word"] ["self", "taken"] (defScope sNew0) := ⟨rfl, rfl, rfl, by decide +kernel, rfl, by decide +kernel, by decide +kernel⟩
theorem ok_new0 (X : TxN K mg CN CT) {f : Addr} {fd : FuncData} (F : Fun K "__init__" "NewWords.__init__" sNew0 f fd) : FnOk P w K mg base CX0 1 f fd ["self", "taken"] (spNew0 CN) := by
  refine F.ok scNew0 (fun vs H Q E h => ?_) (fun cdv A outer s H vs Q E hr h => ?_)
  · obtain ⟨p, dx, tl, tk, rfl, _⟩ := h
    rfl
  obtain ⟨p, dx, tl, tk, rfl, hp, ht, hl, q⟩ := h
  refine ⟨_, pss_cons (ps_fld (pv 0) (pe_dc (own := [("word", 2)]) (g := gName 2) (tt := tYes) (tk := tVar 2) (tv := tC (.bl true)) (by rfl) scNew0.nd (pi_list (pv 1)) (blkOk_by (own := [("word", 2)]) (N := ["self", "taken", "word"]) (sc := defScope sNew0) (by decide +kernel)) (fun _ _ _ _ _ => pg_name (i := 2) scNew0.nd rfl (Or.inl rfl)) (fun _ _ _ _ _ => pts_nil) (fun _ _ _ _ _ => pv 2) (fun _ _ _ _ _ => pe_bl)) rfl)
    (pss_one (ps_fld (pv 0) pe_int rfl)), ?_⟩
  refine ⟨_, rfl, tl, rfl, ⟨_, SqL.of ht⟩, fun D hD => ?_⟩
  refine ⟨fun i m' H' => m' = tk.length - i ∧ i ≤ tk.length ∧ Same H H' ∧ ∃ kvs, H' D = some (.dK kvs) ∧ kvs.length ≤ i ∧ ∀ x : Str, (valV kvs (Sum.inr x)).isSome = decide (x ∈ tk.take i),
    ⟨_, rfl, Nat.zero_le _, same_new hD _, [], upd_same, Nat.le_refl _, fun x => by rw [List.take_zero]; rfl⟩, ?_⟩
  rintro i m' H1 ⟨rfl, hi, s1, kvs, hk, hkl, hall⟩
  by_cases c : i < tk.length
  · have hx1 : (tk.map V.str)[i]? = some (.str tk[i]) := by rw [List.getElem?_map, List.getElem?_eq_getElem c]; rfl
    refine .inr ⟨⟨_, _, SqL.of (s1 _ _ ht), hx1⟩, fun H' => i + 1 ≤ tk.length ∧ Same H H' ∧ ∃ kvs, H' D = some (.dK kvs) ∧ kvs.length ≤ i + 1 ∧ ∀ x : Str, (valV kvs (Sum.inr x)).isSome = decide (x ∈ tk.take (i + 1)),
      fun H' h => ⟨tk.length - (i + 1), by omega, rfl, h⟩, fun x H' hy => ?_⟩
    obtain ⟨e', hx⟩ := hy
    subst e'
    have hx := hx _ (SqL.of (s1 _ _ ht))
    rw [hx1] at hx
    cases hx
    refine ⟨rfl, ?_⟩
    dsimp only [tYes]
    rw [if_pos rfl]
    refine ⟨_, rfl, kvs, Sum.inr tk[i], rfl, hk, Nat.lt_of_le_of_lt (m := 1000) (by omega) (by decide), c, same_mut s1 hD, putK kvs (Sum.inr tk[i]) (.bl true), upd_same, Nat.le_trans (length_putK _ _ _) (Nat.succ_le_succ hkl), fun x => ?_⟩
    rw [valV_put, List.take_succ_eq_append_getElem c]
    by_cases e : x = tk[i]
    · rw [if_pos (by rw [e])]
      rw [decide_eq_true (by rw [e]; exact List.mem_append_right _ List.mem_cons_self)]
      rfl
    · rw [if_neg (fun z => e (Sum.inr.inj z)), hall]
      by_cases e2 : x ∈ tk.take i
      · rw [decide_eq_true e2, decide_eq_true (List.mem_append_left _ e2)]
      · rw [decide_eq_false e2, decide_eq_false fun z => ?_]
        rcases List.mem_append.mp z with z | z
        · exact e2 z
        · exact e (List.mem_singleton.mp z)
  · have ei : i = tk.length := by omega
    subst ei
    rw [List.take_length] at hall
    refine .inl ⟨⟨_, SqL.of (s1 _ _ ht), by rw [List.length_map]; exact Nat.le_refl _⟩, ?_⟩
    have hp1 := s1 _ _ hp
    have nD : D ≠ p := (ne_of_none hp hD).symm
    refine ⟨_, rfl, p, CN, dx, _, rfl, hp1, X.clN, X.nTaken, (by show 0 < 1000; decide), ?_⟩
    refine ⟨_, rfl, p, CN, dx, _, rfl, upd_same, X.clN, X.nMany, (by show 1 < 1000; decide), ?_⟩
    rw [upd_upd]
    refine q _ D (fun b o n hb => ?_) hD ⟨upd_same, kvs, ?_, hall⟩
    · rw [upd_ne n]
      exact s1 _ _ hb
    · rw [upd_ne nD]
      exact hk
/-! ### one_more -/
def spMore (CN : Addr) : Sp := fun vs H Q _ => ∃ (p dx td : Addr) (tk : List Str) (m : Nat), vs = [.ref p] ∧ NWAt CN H p dx td tk m ∧ m + tk.length + 2 < 26 ^ 9 ∧
  ∀ w m', NwR tk m w m' → Q (.str w) (upd H p (.ins CN dx (fsN (.ref td) (.int (m' : Int)))))
abbrev sMore : Stmt := inClass (top 12) 1
theorem scMore : FnScope ["self", "word"] ["self"] (defScope sMore) := ⟨rfl, rfl, rfl, by decide +kernel, rfl, by decide +kernel, by decide +kernel⟩
theorem ok_more (X : TxN K mg CN CT) {f f1 : Addr} {fd d1 : FuncData} (F : Fun K "one_more" "NewWords.one_more" sMore f fd) (Gword_of : FnOk P w K mg base CX0 1 f1 d1 ["k"] spWordOf) (Rword_of : Ref K mg "word_of" f1 d1 ["k"]) : FnOk P w K mg base CX0 2 f fd ["self"] (spMore CN) := by
  refine F.ok scMore (fun vs H Q E h => ?_) (fun cdv A outer s H vs Q E hr h => ?_)
  · obtain ⟨p, dx, td, tk, m, rfl, _⟩ := h
    rfl
  obtain ⟨p, dx, td, tk, m, rfl, hN, hb, q⟩ := h
  refine ⟨_, (pss_cons (ps_set (i := 1) scMore.nd rfl (Or.inl rfl) (pe_call Gword_of (hr.mono (by omega)) rfl Rword_of.m Rword_of.k Rword_of.b .nil pass0 (pa_cons (pe_fld (pv 0) rfl) pa_nil)))
    (pss_cons (ps_fldaug (pv 0) pe_int in_add)
    (pss_cons (ps_while PassesOwn.never (pt_cmp (pc_din (hu_of hr) (pv 1) (pe_fld (pv 0) rfl))) (pss_cons (ps_set (i := 1) scMore.nd rfl (Or.inl rfl) (pe_call Gword_of (hr.mono (by omega)) rfl Rword_of.m Rword_of.k Rword_of.b .nil pass0 (pa_cons (pe_fld (pv 0) rfl) pa_nil)))
    (pss_one (ps_fldaug (pv 0) pe_int in_add))))
    (pss_one (ps_ret (pv 1)))))), ?_⟩
  obtain ⟨k0, hk1, hk2, hk3⟩ := free_word tk m
  have step : ∀ (i : Nat), putF "many" (.int ((i : Int) + 1)) (fsN (.ref td) (.int (i : Int))) = fsN (.ref td) (.int ((i + 1 : Nat) : Int)) := fun i => by
    rw [n_many]
    rfl
  refine ⟨_, rfl, p, CN, dx, _, _, rfl, hN.ob, X.clN, X.nMany, rfl, m, rfl, by omega, ?_⟩
  refine ⟨_, rfl, p, CN, dx, _, _, rfl, hN.ob, X.clN, X.nMany, rfl, _, _, rfl, rfl, _, _, hN.ob, (by show 2 < 1000; decide), ?_⟩
  rw [step]
  refine ⟨fun μ σ H' => ∃ i : Nat, m ≤ i ∧ i ≤ k0 ∧ (∀ l, m ≤ l → l < i → wordOf l ∈ tk) ∧ σ = [some (.ref p), some (.str (wordOf i))] ∧ upd H p (.ins CN dx (fsN (.ref td) (.int ((i + 1 : Nat) : Int)))) = H' ∧ k0 - i = μ, ⟨_, m, Nat.le_refl _, hk1, fun l z1 z2 => by omega, rfl, rfl, rfl⟩, ?_⟩
  rintro μ σ H' ⟨i, h1, h2, hin, rfl, rfl, rfl⟩
  have hNi := hN.put (i + 1)
  obtain ⟨kvs, ht1, ht2⟩ := hNi.tk
  refine ⟨_, rfl, _, rfl, p, CN, dx, _, _, rfl, hNi.ob, X.clN, X.nTaken, rfl, td, _, rfl, DGet.k (k := Sum.inr (wordOf i)) ht1, _, rfl, ?_⟩
  rw [ht2]
  by_cases c : wordOf i ∈ tk
  · have hlt : i < k0 := by
      rcases Nat.lt_or_ge i k0 with z | z
      · exact z
      · have : i = k0 := by omega
        subst this
        exact absurd c hk3
    refine itT (decide_eq_true c) ⟨fun σ' H' => ∃ m', m' < k0 - i ∧ ∃ i : Nat, m ≤ i ∧ i ≤ k0 ∧ (∀ l, m ≤ l → l < i → wordOf l ∈ tk) ∧ σ' = [some (.ref p), some (.str (wordOf i))] ∧ upd H p (.ins CN dx (fsN (.ref td) (.int ((i + 1 : Nat) : Int)))) = H' ∧ k0 - i = m', fun _ _ z => z, ?_⟩
    refine ⟨_, rfl, p, CN, dx, _, _, rfl, hNi.ob, X.clN, X.nMany, rfl, i + 1, rfl, by omega, ?_⟩
    refine ⟨_, rfl, p, CN, dx, _, _, rfl, hNi.ob, X.clN, X.nMany, rfl, _, _, rfl, rfl, _, _, hNi.ob, (by show 2 < 1000; decide), ?_⟩
    rw [step, upd_upd]
    refine ⟨k0 - (i + 1), by omega, i + 1, by omega, by omega, fun l z1 z2 => ?_, rfl, rfl, rfl⟩
    rcases Nat.lt_or_ge l i with y | y
    · exact hin l z1 y
    · have : l = i := by omega
      subst this
      exact c
  · refine itF (decide_eq_false c) ⟨_, rfl, q _ (i + 1) ⟨i, h1, by omega, rfl, c, rfl, hin⟩⟩
end
end KB

namespace KB
open PySem L2 HT

/-! ### jobs, leads and what is made, as they stand -/
def JbA (H : Hp) (q : Addr) : Jb → Prop
  | .row => H q = some (.tup [.str "row"])
  | .done t j => ∃ b, H q = some (.tup [.str "done", .ref b, .str j]) ∧ At H t b
  | .put t x => ∃ b, H q = some (.tup [.str "put", .ref b, .str x]) ∧ At H t b
  | .simple t => ∃ b, H q = some (.tup [.str "simple", .ref b]) ∧ At H t b
  | .known t => ∃ b, H q = some (.tup [.str "known", .ref b]) ∧ At H t b
  | .close => H q = some (.tup [.str "close"])
  | .lett x => H q = some (.tup [.str "let", .str x])
  | .tell x => H q = some (.tup [.str "tell", .str x])
  | .post j x => H q = some (.tup [.str "post", .str j, .str x])
  | .ask f n j => H q = some (.tup [.str "ask", .str f, .int (n : Int), .str j])
  | .give j => H q = some (.tup [.str "give", .str j])
  | .iff => H q = some (.tup [.str "if"])
  | .op l => H q = some (.tup [.str (if l then "less" else "plus")])
def JbV (H : Hp) (j : Jb) (v : V) : Prop := ∃ q, v = .ref q ∧ JbA H q j
theorem JbA.tk {H H' : Hp} (e : TK H H') {q : Addr} {j : Jb} (h : JbA H q j) : JbA H' q j := by
  cases j with
  | done t j => obtain ⟨b, h1, h2⟩ := h; exact ⟨b, e _ _ h1, h2.tk e⟩
  | put t x => obtain ⟨b, h1, h2⟩ := h; exact ⟨b, e _ _ h1, h2.tk e⟩
  | simple t => obtain ⟨b, h1, h2⟩ := h; exact ⟨b, e _ _ h1, h2.tk e⟩
  | known t => obtain ⟨b, h1, h2⟩ := h; exact ⟨b, e _ _ h1, h2.tk e⟩
  | _ => exact e _ _ h
theorem JbV.tk {H H' : Hp} (e : TK H H') {j : Jb} {v : V} (h : JbV H j v) : JbV H' j v := let ⟨q, e1, h1⟩ := h; ⟨q, e1, h1.tk e⟩
def LdV (H : Hp) (l : Ld) (v : V) : Prop := ∃ q b, v = .ref q ∧ (match l with
  | .lett x s => H q = some (.tup [.str "let", .str x, .ref b]) ∧ At H s b
  | .tell x s => H q = some (.tup [.str "tell", .str x, .ref b]) ∧ At H s b
  | .post j x u => H q = some (.tup [.str "post", .str j, .str x, .ref b]) ∧ PAt H u b)
theorem LdV.tk {H H' : Hp} (e : TK H H') {l : Ld} {v : V} (h : LdV H l v) : LdV H' l v := by
  obtain ⟨q, b, e1, h1⟩ := h
  refine ⟨q, b, e1, ?_⟩
  cases l with
  | lett x s => exact ⟨e _ _ h1.1, h1.2.tk e⟩
  | tell x s => exact ⟨e _ _ h1.1, h1.2.tk e⟩
  | post j x u => exact ⟨e _ _ h1.1, PAt.tk e h1.2⟩
def GtV (H : Hp) (g : Gt) (v : V) : Prop := ∃ b, v = .ref b ∧ (match g with | .t s => At H s b | .p q => PAt H q b)
theorem GtV.tk {H H' : Hp} (e : TK H H') {g : Gt} {v : V} (h : GtV H g v) : GtV H' g v := by
  obtain ⟨b, e1, h1⟩ := h
  refine ⟨b, e1, ?_⟩
  cases g with
  | t s => exact At.tk e h1
  | p q => exact PAt.tk e h1
theorem all2_fnR {H : Hp} : ∀ {n : Nat} {k : _root_.Fin n → Tm} {ys : _root_.Fin n → Addr}, (∀ i, At H (k i) (ys i)) → All2 (RefV H) (List.ofFn k) (Rfs ys)
  | 0, _, _, _ => trivial
  | n + 1, k, ys, h => by
    unfold Rfs
    rw [List.ofFn_succ, List.ofFn_succ]
    exact ⟨⟨ys 0, rfl, h 0⟩, all2_fnR (k := fun i => k i.succ) (ys := fun i => ys i.succ) fun i => h i.succ⟩
theorem At.kids {H : Hp} {t : Tm} {a : Addr} (h : At H t a) : ∃ xs, Lay H a (hdT t) xs ∧ All2 (RefV H) (kidsT t) xs := by
  cases t with
  | mk hd n k =>
    obtain ⟨ys, l, r⟩ := h
    exact ⟨Rfs ys, l, all2_fnR r⟩
theorem At.ar {H : Hp} {t : Tm} {a : Addr} (h : At H t a) : arN t := by
  obtain ⟨xs, l, k⟩ := h.kids
  unfold arN
  rw [← k.len]
  exact l.ar
theorem all2_one {α : Type} {R : α → V → Prop} {a : α} {vs : List V} (h : All2 R [a] vs) : ∃ v, vs = [v] ∧ R a v := by
  match vs, h with
  | [v], ⟨h1, _⟩ => exact ⟨v, rfl, h1⟩
theorem all2_two {α : Type} {R : α → V → Prop} {a b : α} {vs : List V} (h : All2 R [a, b] vs) : ∃ v w, vs = [v, w] ∧ R a v ∧ R b w := by
  match vs, h with
  | [v, w], ⟨h1, h2, _⟩ => exact ⟨v, w, rfl, h1, h2⟩
theorem all2_three {α : Type} {R : α → V → Prop} {a b c : α} {vs : List V} (h : All2 R [a, b, c] vs) : ∃ v w x, vs = [v, w, x] ∧ R a v ∧ R b w ∧ R c x := by
  match vs, h with
  | [v, w, x], ⟨h1, h2, h3, _⟩ => exact ⟨v, w, x, rfl, h1, h2, h3⟩
theorem at3 {x y z u : V} {r : List V} : atI (x :: y :: z :: u :: r) 3 = some u := at_of (j := 3) rfl rfl
section
variable {P : Program} {w : World} {K : PySem.W.Frag} {mg : Str → Option Value} {base : Heap} {CN CT : Addr}
/-! ### jobs_to_end -/
def spJend : Sp := fun vs H Q _ => ∃ (a : Addr) (t : Tm) (j : Str), vs = [.ref a, .str j] ∧ At H t a ∧ ∀ r H' us, H r = none → Same H H' → H' r = some (.lst us) → All2 (JbV H') (endJ t j) us → Q (.ref r) H'
abbrev sjobs_to_end : Stmt := top 16
theorem scjobs_to_end : FnScope ["term", "j", "part", "sides"] ["term", "j"] (defScope sjobs_to_end) := ⟨rfl, rfl, rfl, by decide +kernel, rfl, by decide +kernel, by decide +kernel⟩
theorem hs_ask {h : Hd} (e : hs h = "ask") : ∃ f, h = .ask f := by
  cases h <;> dsimp only [hs] at e <;> first | exact ⟨_, rfl⟩ | exact absurd e (by decide)
theorem hs_iff {h : Hd} (e : hs h = "if") : h = .iff := by
  cases h <;> dsimp only [hs] at e <;> first | rfl | exact absurd e (by decide)
theorem hs_let {h : Hd} (e : hs h = "let") : ∃ x, h = .lett x := by
  cases h <;> dsimp only [hs] at e <;> first | exact ⟨_, rfl⟩ | exact absurd e (by decide)
theorem hs_tell {h : Hd} (e : hs h = "tell") : h = .tell := by
  cases h <;> dsimp only [hs] at e <;> first | rfl | exact absurd e (by decide)
theorem endJ_plain {t : Tm} {j : Str} (h1 : hs (hdT t) ≠ "ask") (h2 : hs (hdT t) ≠ "if") : endJ t j = [.simple t, .give j] := by
  unfold endJ
  cases hh : hdT t with
  | ask f => rw [hh] at h1; exact absurd rfl h1
  | iff => rw [hh] at h2; exact absurd rfl h2
  | _ => rfl
theorem ok_jend (T : Txt K mg) {f : Addr} {fd : FuncData} (F : Fun K "jobs_to_end" "jobs_to_end" sjobs_to_end f fd) : FnOk P w K mg base CX0 1 f fd ["term", "j"] spJend := by
  refine F.ok scjobs_to_end (fun vs H Q E h => ?_) (fun cdv A outer s H vs Q E hr h => ?_)
  · obtain ⟨a, t, j, rfl, _⟩ := h
    rfl
  obtain ⟨a, t, j, rfl, hA, q⟩ := h
  refine ⟨_, (pss_cons (ps_if (pt_cmpR op_eq (pe_ix ix_tup (pv 0) pe_int (fun _ _ => rfl)) pe_str (nomark _)) (pss_one (ps_ret (pe_lst (StX.pa_star (pe_lc (own := [("part", 2)]) (g := gName 2) (by rfl) scjobs_to_end.nd (pi_tup (pe_ix ix_tup (pv 0) pe_int (fun _ _ => rfl))) (blkOk_by (own := [("part", 2)]) (N := ["term", "j", "part", "sides"]) (sc := defScope sjobs_to_end) (by decide +kernel)) (fun _ _ _ _ _ => (pg_name (i := 2) scjobs_to_end.nd rfl (Or.inl rfl))) (fun _ _ _ _ _ => pts_nil) (fun _ _ _ _ _ => (pe_tup (pa_cons pe_str (pa_cons (pv 2) pa_nil))))) (pa_cons (pe_tup (pa_cons pe_str (pa_cons (pe_ix ix_tup (pv 0) pe_int (fun _ _ => rfl)) (pa_cons (pe_callB call_len_seq (by rfl) T.m_len PySem.boot_len (pa_cons (pe_ix ix_tup (pv 0) pe_int (fun _ _ => rfl)) pa_nil)) (pa_cons (pv 1) pa_nil))))) pa_nil))))) pss_nil)
    (pss_cons (ps_if (pt_cmpR op_eq (pe_ix ix_tup (pv 0) pe_int (fun _ _ => rfl)) pe_str (nomark _)) (pss_cons (ps_set (i := 3) scjobs_to_end.nd rfl (Or.inl rfl) (pe_lst (pa_cons (pe_tup (pa_cons pe_str pa_nil)) (pa_cons (pe_tup (pa_cons pe_str (pa_cons (pe_ix ix_tup (pv 0) pe_int (fun _ _ => rfl)) (pa_cons (pv 1) pa_nil)))) (pa_cons (pe_tup (pa_cons pe_str pa_nil)) (pa_cons (pe_tup (pa_cons pe_str (pa_cons (pe_ix ix_tup (pv 0) pe_int (fun _ _ => rfl)) (pa_cons (pv 1) pa_nil)))) pa_nil))))))
    (pss_one (ps_ret (pe_lst (pa_cons (pe_tup (pa_cons pe_str (pa_cons (pe_ix ix_tup (pv 0) pe_int (fun _ _ => rfl)) pa_nil))) (StX.pa_star (pv 3) (pa_cons (pe_tup (pa_cons pe_str pa_nil)) pa_nil))))))) pss_nil)
    (pss_one (ps_ret (pe_lst (pa_cons (pe_tup (pa_cons pe_str (pa_cons (pv 0) pa_nil))) (pa_cons (pe_tup (pa_cons pe_str (pa_cons (pv 1) pa_nil))) pa_nil))))))), ?_⟩
  obtain ⟨xs, l, kx⟩ := hA.kids
  obtain ⟨r0, hd⟩ := l.head
  have hlk := kx.len
  refine ⟨_, rfl, a, _, _, _, rfl, rfl, SqT.of hd, at0, rfl, _, rfl, ?_⟩
  refine ite2 (fun c => ?_) (fun c => ?_)
  · obtain ⟨g, hh⟩ := hs_ask (V.str.inj (of_decide_eq_true c))
    have eE : endJ t j = (kidsT t).map Jb.simple ++ [.ask g (kidsT t).length j] := by
      unfold endJ
      rw [hh]
    rw [eE] at q
    rw [hh] at l
    obtain ⟨l4, ap, la, lp⟩ := l
    refine ⟨_, rfl, a, _, _, _, rfl, rfl, SqT.of la, at2, ap, rfl, ⟨_, SqT.of lp⟩, fun D hD => lc_tup (K := K) (a := ap) (xs := xs) (fun i H' => Same H H' ∧ ∃ acc, H' D = some (.lst acc) ∧ All2 (JbV H') (((kidsT t).take i).map Jb.simple) acc) ⟨same_new hD _, [], upd_same, trivial⟩ ?_ ?_ ?_⟩
    · rintro i H' _ ⟨s1, _⟩
      exact SqT.of (s1 _ _ lp)
    · rintro i x H1 hx ⟨s1, acc, h1, k1⟩
      obtain ⟨u, hu, b, rfl, hb⟩ := kx.get hx
      have hil := (List.getElem?_eq_some_iff.mp hx).1
      refine ⟨rfl, ?_⟩
      dsimp only [tYes]
      refine iteT ⟨_, rfl, sz (by show 2 ≤ 100000; decide), fun t1 ht1 => ?_⟩
      have s2 := same_new ht1 (.tup [.str "simple", .ref b])
      have h2 := s2 _ _ h1
      have hal := k1.len
      rw [List.length_map, List.length_take] at hal
      refine ⟨acc, h2, Nat.lt_of_le_of_lt (m := 1000) (by omega) (by decide), same_mut (s1.trans s2) hD, _, upd_same, ?_⟩
      have tk := tk_put (o := .lst (acc ++ [.ref t1])) h2
      obtain ⟨hj, hj2⟩ := List.getElem?_eq_some_iff.mp hu
      rw [List.take_succ_eq_append_getElem hj, hj2, List.map_append]
      exact (k1.imp fun _ _ z => JbV.tk ((tk_same s2).trans tk) z).app ⟨⟨t1, rfl, b, tk _ _ upd_same, hb.tk ((tk_same (s1.trans s2)).trans tk)⟩, trivial⟩
    · rintro H1 ⟨s1, acc, h1, k1⟩
      rw [hlk, List.take_length] at k1
      have hal := k1.len
      rw [List.length_map] at hal
      refine ⟨D, acc, rfl, .inr (SqL.of h1), _, rfl, a, _, _, _, rfl, rfl, SqT.of (s1 _ _ la), at1, _, rfl, a, _, _, _, rfl, rfl, SqT.of (s1 _ _ la), at2, ap, _, rfl, .inr (SqT.of (s1 _ _ lp)), _, rfl, sz (by show 4 ≤ 100000; decide), fun t2 ht2 => ?_⟩
      rw [hlk]
      have s2 := same_new ht2 (.tup [.str "ask", .str g, .int ((kidsT t).length : Int), .str j])
      refine ⟨sz (by rw [List.length_append, List.length_singleton]; omega), fun r hr2 => ?_⟩
      have s3 := same_new hr2 (.lst (acc ++ [.ref t2]))
      have s12 := s1.trans s2
      refine q r _ _ (s12.free hr2) (s12.trans s3) upd_same ?_
      exact (k1.imp fun _ _ z => JbV.tk (tk_same (s2.trans s3)) z).app ⟨⟨t2, rfl, s3 _ _ upd_same⟩, trivial⟩
  refine ⟨_, rfl, a, _, _, _, rfl, rfl, SqT.of hd, at0, rfl, _, rfl, ?_⟩
  refine ite2 (fun c2 => ?_) (fun c2 => ?_)
  · have hh := hs_iff (V.str.inj (of_decide_eq_true c2))
    rw [hh] at l
    obtain ⟨u1, u2, u3, e3⟩ := three_of (show (kidsT t).length = 3 by rw [← hlk]; exact l.1)
    have eE : endJ t j = [.simple u1, .row, .done u2 j, .row, .done u3 j, .iff] := by
      unfold endJ
      rw [hh, e3]
    rw [eE] at q
    rw [e3] at kx
    obtain ⟨v1, v2, v3, rfl, ⟨b1, rfl, g1⟩, ⟨b2, rfl, g2⟩, ⟨b3, rfl, g3⟩⟩ := all2_three kx
    have la : H a = some (.tup [.str "if", .ref b1, .ref b2, .ref b3]) := l.2
    refine ⟨sz (by show 1 ≤ 100000; decide), fun t1 ht1 => ?_⟩
    have s1 := same_new ht1 (.tup [.str "row"])
    refine ⟨_, rfl, a, _, _, _, rfl, rfl, SqT.of (s1 _ _ la), at2, _, rfl, sz (by show 3 ≤ 100000; decide), fun t2 ht2 => ?_⟩
    have s2 := same_new ht2 (.tup [.str "done", .ref b2, .str j])
    refine ⟨sz (by show 1 ≤ 100000; decide), fun t3 ht3 => ?_⟩
    have s3 := same_new ht3 (.tup [.str "row"])
    refine ⟨_, rfl, a, _, _, _, rfl, rfl, SqT.of ((s1.trans (s2.trans s3)) _ _ la), at3, _, rfl, sz (by show 3 ≤ 100000; decide), fun t4 ht4 => ?_⟩
    have s4 := same_new ht4 (.tup [.str "done", .ref b3, .str j])
    refine ⟨sz (by show 4 ≤ 100000; decide), fun sl hsl => ?_⟩
    have s5 := same_new hsl (.lst [.ref t1, .ref t2, .ref t3, .ref t4])
    have s15 := s1.trans (s2.trans (s3.trans (s4.trans s5)))
    refine ⟨_, rfl, a, _, _, _, rfl, rfl, SqT.of (s15 _ _ la), at1, sz (by show 2 ≤ 100000; decide), fun t5 ht5 => ?_⟩
    have s6 := same_new ht5 (.tup [.str "simple", .ref b1])
    refine ⟨_, rfl, sl, _, rfl, .inr (SqL.of (s6 _ _ upd_same)), sz (by show 1 ≤ 100000; decide), fun t6 ht6 => ?_⟩
    have s7 := same_new ht6 (.tup [.str "if"])
    refine ⟨sz (by show 6 ≤ 100000; decide), fun r hr2 => ?_⟩
    have s8 := same_new hr2 (.lst [.ref t5, .ref t1, .ref t2, .ref t3, .ref t4, .ref t6])
    have s17 := s15.trans (s6.trans s7)
    have s18 := s17.trans s8
    have tkA := tk_same s18
    refine q r _ _ (s17.free hr2) s18 upd_same ⟨⟨t5, rfl, b1, (s7.trans s8) _ _ upd_same, g1.tk tkA⟩, ⟨t1, rfl, (s2.trans (s3.trans (s4.trans (s5.trans (s6.trans (s7.trans s8)))))) _ _ upd_same⟩,
      ⟨t2, rfl, b2, (s3.trans (s4.trans (s5.trans (s6.trans (s7.trans s8))))) _ _ upd_same, g2.tk tkA⟩, ⟨t3, rfl, (s4.trans (s5.trans (s6.trans (s7.trans s8)))) _ _ upd_same⟩, ⟨t4, rfl, b3, (s5.trans (s6.trans (s7.trans s8))) _ _ upd_same, g3.tk tkA⟩, ⟨t6, rfl, s8 _ _ upd_same⟩, trivial⟩
  · have eE : endJ t j = [.simple t, .give j] := endJ_plain (fun z => c (decide_eq_true (congrArg V.str z))) (fun z => c2 (decide_eq_true (congrArg V.str z)))
    rw [eE] at q
    refine ⟨_, rfl, sz (by show 2 ≤ 100000; decide), fun t1 ht1 => ?_⟩
    have s1 := same_new ht1 (.tup [.str "simple", .ref a])
    refine ⟨_, rfl, sz (by show 2 ≤ 100000; decide), fun t2 ht2 => ?_⟩
    have s2 := same_new ht2 (.tup [.str "give", .str j])
    refine ⟨sz (by show 2 ≤ 100000; decide), fun r hr2 => ?_⟩
    have s3 := same_new hr2 (.lst [.ref t1, .ref t2])
    have s13 := s1.trans (s2.trans s3)
    exact q r _ _ ((s1.trans s2).free hr2) s13 upd_same ⟨⟨t1, rfl, a, (s2.trans s3) _ _ upd_same, hA.tk (tk_same s13)⟩, ⟨t2, rfl, s3 _ _ upd_same⟩, trivial⟩
/-! ### put_ahead -/
def spAhead : Sp := fun vs H Q _ => ∃ (la b : Addr) (ls : List V) (r : List Ld) (p : Pt), vs = [.ref la, .ref b] ∧ H la = some (.lst ls) ∧ All2 (LdV H) r ls ∧ PAt H p b ∧ ∀ H' b', Same H H' → PAt H' (putAh r p) b' → Q (.ref b') H'
abbrev sput_ahead : Stmt := top 17
theorem scput_ahead : FnScope ["leads", "part", "lead", "head", "j", "x", "inner"] ["leads", "part"] (defScope sput_ahead) := ⟨rfl, rfl, rfl, by decide +kernel, rfl, by decide +kernel, by decide +kernel⟩
theorem putAh_app (a b : List Ld) (p : Pt) : putAh (a ++ b) p = putAh a (putAh b p) := by
  induction a with
  | nil => rfl
  | cons l r ih => cases l <;> (show _ = _; simp only [List.cons_append, putAh, ih])
theorem ok_ahead (T : Txt K mg) {f : Addr} {fd : FuncData} (F : Fun K "put_ahead" "put_ahead" sput_ahead f fd) : FnOk P w K mg base CX0 1 f fd ["leads", "part"] spAhead := by
  refine F.ok scput_ahead (fun vs H Q E h => ?_) (fun cdv A outer s H vs Q E hr h => ?_)
  · obtain ⟨la, b, ls, r, p, rfl, _⟩ := h
    rfl
  obtain ⟨la, b, ls, r, p, rfl, hl, kl, hb, q⟩ := h
  refine ⟨_, (pss_cons (ps_for PassesOwn.never rfl (RT.pi_revA rfl T.m_reversed (pv 0)) (pg_name (i := 2) scput_ahead.nd rfl (Or.inl rfl)) (pss_one (ps_if (pt_cmpR op_eq (pe_ix ix_tup (pv 2) pe_int (fun _ _ => rfl)) pe_str (nomark _)) (pss_cons (ps_asg (pv 2) (pg_tup rfl (pgs_cons (pg_name (i := 3) scput_ahead.nd rfl (Or.inl rfl)) (pgs_cons (pg_name (i := 4) scput_ahead.nd rfl (Or.inl rfl)) (pgs_cons (pg_name (i := 5) scput_ahead.nd rfl (Or.inl rfl)) (pgs_cons (pg_name (i := 6) scput_ahead.nd rfl (Or.inl rfl)) pgs_nil))))))
    (pss_one (ps_set (i := 1) scput_ahead.nd rfl (Or.inl rfl) (pe_tup (pa_cons (pv 3) (pa_cons (pv 4) (pa_cons (pv 5) (pa_cons (pv 1) (pa_cons (pv 6) pa_nil))))))))) (pss_one (ps_set (i := 1) scput_ahead.nd rfl (Or.inl rfl) (pe_tup (StX.pa_star (pv 2) (pa_cons (pv 1) pa_nil))))))))
    (pss_one (ps_ret (pv 1)))), ?_⟩
  have hlen := kl.len
  refine ⟨_, rfl, la, ls, rfl, .inl ⟨SqL.of hl, ?_⟩⟩
  refine RT.for_Itv (K := K) (a := la) (xs := ls) (fun i σ H' => ∃ b' o2 o3 o4 o5 o6, σ = [some (.ref la), some (.ref b'), o2, o3, o4, o5, o6] ∧ Same H H' ∧ PAt H' (putAh (r.drop (r.length - i)) p) b') ?_ ?_ ?_ ?_
  · refine ⟨b, _, _, _, _, _, rfl, Same.refl _, ?_⟩
    rw [Nat.sub_zero, List.drop_length]
    exact hb
  · rintro i σ H' ⟨b', o2, o3, o4, o5, o6, rfl, s1, _⟩
    exact SqL.of (s1 _ _ hl)
  · rintro i x σ H1 hi hx ⟨b', o2, o3, o4, o5, o6, rfl, s1, h1⟩
    obtain ⟨ld, hld, q1, b1, rfl, g⟩ := kl.get hx
    rw [hlen] at hld hi
    have hj : r.length - 1 - i < r.length := by omega
    have eD : r.drop (r.length - (i + 1)) = ld :: r.drop (r.length - i) := by
      have e1 : r.length - (i + 1) = r.length - 1 - i := by omega
      have e2 : r.length - i = r.length - 1 - i + 1 := by omega
      rw [e1, e2, List.drop_eq_getElem_cons hj]
      congr 1
      rw [List.getElem?_eq_getElem hj] at hld
      exact Option.some.inj hld
    rw [eD]
    cases ld with
    | lett y s =>
      obtain ⟨g1, g2⟩ := g
      refine ⟨_, rfl, q1, _, _, _, rfl, rfl, SqT.of (s1 _ _ g1), at0, rfl, _, rfl, itF rfl ?_⟩
      refine ⟨_, rfl, q1, _, rfl, .inl (SqT.of (s1 _ _ g1)), _, rfl, sz (by show 4 ≤ 100000; decide), fun t1 ht1 => ?_⟩
      have s2 := same_new ht1 (.tup [.str "let", .str y, .ref b1, .ref b'])
      exact ⟨t1, _, _, _, _, _, rfl, s1.trans s2, b1, b', upd_same, g2.tk (tk_same (s1.trans s2)), PAt.tk (tk_same s2) h1⟩
    | tell y s =>
      obtain ⟨g1, g2⟩ := g
      refine ⟨_, rfl, q1, _, _, _, rfl, rfl, SqT.of (s1 _ _ g1), at0, rfl, _, rfl, itF rfl ?_⟩
      refine ⟨_, rfl, q1, _, rfl, .inl (SqT.of (s1 _ _ g1)), _, rfl, sz (by show 4 ≤ 100000; decide), fun t1 ht1 => ?_⟩
      have s2 := same_new ht1 (.tup [.str "tell", .str y, .ref b1, .ref b'])
      exact ⟨t1, _, _, _, _, _, rfl, s1.trans s2, b1, b', upd_same, g2.tk (tk_same (s1.trans s2)), PAt.tk (tk_same s2) h1⟩
    | post j y u =>
      obtain ⟨g1, g2⟩ := g
      refine ⟨_, rfl, q1, _, _, _, rfl, rfl, SqT.of (s1 _ _ g1), at0, rfl, _, rfl, itT rfl ?_⟩
      refine ⟨_, rfl, q1, _, rfl, SqT.of (s1 _ _ g1), rfl, _, _, rfl, _, _, rfl, _, _, rfl, _, _, rfl, rfl, ?_⟩
      refine ⟨_, rfl, _, rfl, _, rfl, _, rfl, _, rfl, sz (by show 5 ≤ 100000; decide), fun t1 ht1 => ?_⟩
      have s2 := same_new ht1 (.tup [.str "post", .str j, .str y, .ref b', .ref b1])
      exact ⟨t1, _, _, _, _, _, rfl, s1.trans s2, b', b1, upd_same, PAt.tk (tk_same s2) h1, PAt.tk (tk_same (s1.trans s2)) g2⟩
  · rintro σ H1 ⟨b', o2, o3, o4, o5, o6, rfl, s1, h1⟩
    rw [hlen, Nat.sub_self, List.drop_zero] at h1
    exact ⟨_, rfl, q H1 b' s1 h1⟩
end
end KB

namespace KB
open PySem L2 HT

/-! ### a turning as it stands -/
structure TuA where
  (p dT nw dN td jl rl gl : Addr)
def RowV (H : Hp) (r : List Ld) (v : V) : Prop := ∃ ra vs, v = .ref ra ∧ H ra = some (.lst vs) ∧ All2 (LdV H) r vs
structure TuAt (CN CT : Addr) (H0 H : Hp) (A : TuA) (tk : List Str) (c : Cg) (ras : List Addr) : Prop where
  ob : H A.p = some (.ins CT A.dT (fsT (.ref A.nw) (.ref A.jl) (.ref A.rl) (.ref A.gl)))
  nw : NWAt CN H A.nw A.dN A.td tk c.m
  js : ∃ js, H A.jl = some (.lst js.reverse) ∧ All2 (JbV H) c.jobs js
  rl : H A.rl = some (.lst (ras.map V.ref).reverse)
  rs : All2 (RowV H) c.rows (ras.map V.ref)
  gs : ∃ gs, H A.gl = some (.lst gs.reverse) ∧ All2 (GtV H) c.got gs
  nd : ras.Nodup
  n1 : A.jl ≠ A.rl
  n2 : A.jl ≠ A.gl
  n3 : A.rl ≠ A.gl
  n4 : A.p ≠ A.nw
  n5 : ∀ x ∈ ras, x ≠ A.jl ∧ x ≠ A.rl ∧ x ≠ A.gl
  sm : Same H0 H
  o1 : H0 A.jl = none
  o2 : H0 A.rl = none
  o3 : H0 A.gl = none
  o4 : H0 A.nw = none
  o5 : ∀ x ∈ ras, H0 x = none
section
variable {CN CT : Addr} {H0 H H' : Hp} {A : TuA} {tk : List Str} {c : Cg} {ras : List Addr}
theorem RowV.mono (e : Same H H') {r : List Ld} {v : V} (h : RowV H r v) : RowV H' r v := by
  obtain ⟨ra, vs, e1, h1, h2⟩ := h
  exact ⟨ra, vs, e1, e _ _ h1, h2.imp fun _ _ z => z.tk (tk_same e)⟩
theorem TuAt.mono (e : Same H H') (h : TuAt CN CT H0 H A tk c ras) : TuAt CN CT H0 H' A tk c ras := by
  obtain ⟨js, j1, j2⟩ := h.js
  obtain ⟨gs, g1, g2⟩ := h.gs
  obtain ⟨kvs, k1, k2⟩ := h.nw.tk
  exact ⟨e _ _ h.ob, ⟨e _ _ h.nw.ob, kvs, e _ _ k1, k2⟩, ⟨js, e _ _ j1, j2.imp fun _ _ z => z.tk (tk_same e)⟩, e _ _ h.rl, h.rs.imp fun _ _ z => z.mono e, ⟨gs, e _ _ g1, g2.imp fun _ _ z => z.tk (tk_same e)⟩, h.nd, h.n1, h.n2, h.n3, h.n4, h.n5, h.sm.trans e, h.o1, h.o2, h.o3, h.o4, h.o5⟩
/-- another address than that of a list -/
theorem TuAt.lst_ne (h : TuAt CN CT H0 H A tk c ras) {x : Addr} {xs : List V} (hx : H x = some (.lst xs)) : A.p ≠ x ∧ A.nw ≠ x ∧ A.td ≠ x := by
  obtain ⟨kvs, k1, k2⟩ := h.nw.tk
  exact ⟨ne_of h.ob hx (by intro z; cases z), ne_of h.nw.ob hx (by intro z; cases z), ne_of k1 hx (by intro z; cases z)⟩
theorem rows_put {x : Addr} {o : HO} {R : List (List Ld)} {ras : List Addr} (tk : TK H (upd H x o)) (n : ∀ y ∈ ras, y ≠ x) (h : All2 (RowV H) R (ras.map V.ref)) : All2 (RowV (upd H x o)) R (ras.map V.ref) := by
  induction ras generalizing R with
  | nil => cases R with
    | nil => trivial
    | cons _ _ => exact h.elim
  | cons a r ih => cases R with
    | nil => exact h.elim
    | cons b R =>
      obtain ⟨⟨ra, vs, e1, h1, h2⟩, h3⟩ := h
      refine ⟨⟨ra, vs, e1, ?_, h2.imp fun _ _ z => z.tk tk⟩, ih (fun y hy => n y (List.mem_cons_of_mem _ hy)) h3⟩
      cases e1
      rw [upd_ne (n a List.mem_cons_self)]
      exact h1
theorem TuAt.setJobs (h : TuAt CN CT H0 H A tk c ras) {J : List Jb} {js' : List V} (k : All2 (JbV H) J js') : TuAt CN CT H0 (upd H A.jl (.lst js'.reverse)) A tk { c with jobs := J } ras := by
  obtain ⟨js, j1, j2⟩ := h.js
  obtain ⟨gs, g1, g2⟩ := h.gs
  obtain ⟨kvs, k1, k2⟩ := h.nw.tk
  obtain ⟨e1, e2, e3⟩ := h.lst_ne j1
  have tkk : TK H (upd H A.jl (.lst js'.reverse)) := tk_put j1
  refine ⟨by rw [upd_ne e1]; exact h.ob, ⟨by rw [upd_ne e2]; exact h.nw.ob, kvs, by rw [upd_ne e3]; exact k1, k2⟩, ⟨js', upd_same, k.imp fun _ _ z => z.tk tkk⟩, by rw [upd_ne h.n1.symm]; exact h.rl, rows_put tkk (fun y hy => (h.n5 y hy).1) h.rs,
    ⟨gs, by rw [upd_ne h.n2.symm]; exact g1, g2.imp fun _ _ z => z.tk tkk⟩, h.nd, h.n1, h.n2, h.n3, h.n4, h.n5, same_mut h.sm h.o1, h.o1, h.o2, h.o3, h.o4, h.o5⟩
theorem TuAt.setGot (h : TuAt CN CT H0 H A tk c ras) {G : List Gt} {gs' : List V} (k : All2 (GtV H) G gs') : TuAt CN CT H0 (upd H A.gl (.lst gs'.reverse)) A tk { c with got := G } ras := by
  obtain ⟨js, j1, j2⟩ := h.js
  obtain ⟨gs, g1, g2⟩ := h.gs
  obtain ⟨kvs, k1, k2⟩ := h.nw.tk
  obtain ⟨e1, e2, e3⟩ := h.lst_ne g1
  have tkk : TK H (upd H A.gl (.lst gs'.reverse)) := tk_put g1
  refine ⟨by rw [upd_ne e1]; exact h.ob, ⟨by rw [upd_ne e2]; exact h.nw.ob, kvs, by rw [upd_ne e3]; exact k1, k2⟩, ⟨js, by rw [upd_ne h.n2]; exact j1, j2.imp fun _ _ z => z.tk tkk⟩, by rw [upd_ne h.n3]; exact h.rl, rows_put tkk (fun y hy => (h.n5 y hy).2.2) h.rs,
    ⟨gs', upd_same, k.imp fun _ _ z => z.tk tkk⟩, h.nd, h.n1, h.n2, h.n3, h.n4, h.n5, same_mut h.sm h.o3, h.o1, h.o2, h.o3, h.o4, h.o5⟩
theorem TuAt.setM (h : TuAt CN CT H0 H A tk c ras) (m' : Nat) : TuAt CN CT H0 (upd H A.nw (.ins CN A.dN (fsN (.ref A.td) (.int (m' : Int))))) A tk { c with m := m' } ras := by
  obtain ⟨js, j1, j2⟩ := h.js
  obtain ⟨gs, g1, g2⟩ := h.gs
  have tkk : TK H (upd H A.nw (.ins CN A.dN (fsN (.ref A.td) (.int (m' : Int))))) := tk_upd h.nw.ob (by intro xs z; cases z)
  have nr : ∀ y ∈ ras, y ≠ A.nw := fun y hy => by
    have : ∀ {R : List (List Ld)} {l : List Addr}, y ∈ l → All2 (RowV H) R (l.map V.ref) → ∃ vs, H y = some (.lst vs) := by
      intro R l
      induction l generalizing R with
      | nil => intro z; cases z
      | cons a r ih =>
        intro z k
        cases R with
        | nil => exact k.elim
        | cons b R =>
          obtain ⟨⟨ra, vs, e1, h1, h2⟩, h3⟩ := k
          cases e1
          rcases List.mem_cons.mp z with z | z
          · subst z; exact ⟨vs, h1⟩
          · exact ih z h3
    obtain ⟨vs, hv⟩ := this hy h.rs
    exact ne_of hv h.nw.ob (by intro z; cases z)
  refine ⟨by rw [upd_ne h.n4]; exact h.ob, h.nw.put m', ⟨js, by rw [upd_ne (h.lst_ne j1).2.1.symm]; exact j1, j2.imp fun _ _ z => z.tk tkk⟩, by rw [upd_ne (h.lst_ne h.rl).2.1.symm]; exact h.rl, rows_put tkk nr h.rs,
    ⟨gs, by rw [upd_ne (h.lst_ne g1).2.1.symm]; exact g1, g2.imp fun _ _ z => z.tk tkk⟩, h.nd, h.n1, h.n2, h.n3, h.n4, h.n5, same_mut h.sm h.o4, h.o1, h.o2, h.o3, h.o4, h.o5⟩
/-- a new row -/
theorem TuAt.pushRow (h : TuAt CN CT H0 H A tk c ras) {ra : Addr} (n : H ra = none) : TuAt CN CT H0 (upd (upd H ra (.lst [])) A.rl (.lst ((ra :: ras).map V.ref).reverse)) A tk { c with rows := [] :: c.rows } (ra :: ras) := by
  have e := same_new n (.lst [])
  have h1 := h.mono e
  obtain ⟨js, j1, j2⟩ := h1.js
  obtain ⟨gs, g1, g2⟩ := h1.gs
  obtain ⟨kvs, k1, k2⟩ := h1.nw.tk
  obtain ⟨e1, e2, e3⟩ := h1.lst_ne h1.rl
  have old : ∀ {x : Addr} {o : HO}, H x = some o → x ≠ ra := fun q => ne_of_none q n
  obtain ⟨js0, j10, _⟩ := h.js
  obtain ⟨gs0, g10, _⟩ := h.gs
  have nr := old h.rl
  have tkk : TK (upd H ra (.lst [])) (upd (upd H ra (.lst [])) A.rl (.lst ((ra :: ras).map V.ref).reverse)) := tk_put h1.rl
  refine ⟨by rw [upd_ne e1]; exact h1.ob, ⟨by rw [upd_ne e2]; exact h1.nw.ob, kvs, by rw [upd_ne e3]; exact k1, k2⟩, ⟨js, by rw [upd_ne h.n1]; exact j1, j2.imp fun _ _ z => z.tk tkk⟩, upd_same,
    ⟨⟨ra, [], rfl, by rw [upd_ne nr.symm]; exact upd_same, trivial⟩, rows_put tkk (fun y hy => (h.n5 y hy).2.1) h1.rs⟩, ⟨gs, by rw [upd_ne h.n3.symm]; exact g1, g2.imp fun _ _ z => z.tk tkk⟩, ?_, h.n1, h.n2, h.n3, h.n4, ?_, same_mut h1.sm h.o2, h.o1, h.o2, h.o3, h.o4, ?_⟩
  · refine List.nodup_cons.mpr ⟨fun z => ?_, h.nd⟩
    have : ∀ {R : List (List Ld)} {l : List Addr}, ra ∈ l → All2 (RowV H) R (l.map V.ref) → False := by
      intro R l
      induction l generalizing R with
      | nil => intro z; cases z
      | cons a r ih =>
        intro z k
        cases R with
        | nil => exact k.elim
        | cons b R =>
          obtain ⟨⟨r2, vs, e1, h1, h2⟩, h3⟩ := k
          cases e1
          rcases List.mem_cons.mp z with z | z
          · subst z
            rw [h1] at n
            cases n
          · exact ih z h3
    exact this z h.rs
  · intro y hy
    rcases List.mem_cons.mp hy with z | z
    · subst z
      exact ⟨(old j10).symm, nr.symm, (old g10).symm⟩
    · exact h.n5 y z
  · intro y hy
    rcases List.mem_cons.mp hy with z | z
    · subst z
      exact h.sm.free n
    · exact h.o5 y z
/-- the last row taken away -/
theorem TuAt.popRow {r : List Ld} {R : List (List Ld)} {ra : Addr} (h : TuAt CN CT H0 H A tk { c with rows := r :: R } (ra :: ras)) : TuAt CN CT H0 (upd H A.rl (.lst (ras.map V.ref).reverse)) A tk { c with rows := R } ras := by
  obtain ⟨js, j1, j2⟩ := h.js
  obtain ⟨gs, g1, g2⟩ := h.gs
  obtain ⟨kvs, k1, k2⟩ := h.nw.tk
  obtain ⟨e1, e2, e3⟩ := h.lst_ne h.rl
  have tkk : TK H (upd H A.rl (.lst (ras.map V.ref).reverse)) := tk_put h.rl
  exact ⟨by rw [upd_ne e1]; exact h.ob, ⟨by rw [upd_ne e2]; exact h.nw.ob, kvs, by rw [upd_ne e3]; exact k1, k2⟩, ⟨js, by rw [upd_ne h.n1]; exact j1, j2.imp fun _ _ z => z.tk tkk⟩, upd_same,
    rows_put tkk (fun y hy => (h.n5 y (List.mem_cons_of_mem _ hy)).2.1) h.rs.2, ⟨gs, by rw [upd_ne h.n3.symm]; exact g1, g2.imp fun _ _ z => z.tk tkk⟩, (List.nodup_cons.mp h.nd).2, h.n1, h.n2, h.n3, h.n4, fun y hy => h.n5 y (List.mem_cons_of_mem _ hy), same_mut h.sm h.o2, h.o1, h.o2, h.o3, h.o4, fun y hy => h.o5 y (List.mem_cons_of_mem _ hy)⟩
/-- a lead put behind the last row's -/
theorem TuAt.addLead {r : List Ld} {R : List (List Ld)} {ra : Addr} {vs : List V} {l : Ld} {v : V} (h : TuAt CN CT H0 H A tk { c with rows := r :: R } (ra :: ras)) (hv : H ra = some (.lst vs)) (kv : All2 (LdV H) r vs) (kl : LdV H l v) :
    TuAt CN CT H0 (upd H ra (.lst (vs ++ [v]))) A tk { c with rows := (r ++ [l]) :: R } (ra :: ras) := by
  obtain ⟨js, j1, j2⟩ := h.js
  obtain ⟨gs, g1, g2⟩ := h.gs
  obtain ⟨kvs, k1, k2⟩ := h.nw.tk
  obtain ⟨e1, e2, e3⟩ := h.lst_ne hv
  obtain ⟨a1, a2, a3⟩ := h.n5 ra List.mem_cons_self
  have tkk : TK H (upd H ra (.lst (vs ++ [v]))) := tk_put hv
  have nd := List.nodup_cons.mp h.nd
  refine ⟨by rw [upd_ne e1]; exact h.ob, ⟨by rw [upd_ne e2]; exact h.nw.ob, kvs, by rw [upd_ne e3]; exact k1, k2⟩, ⟨js, by rw [upd_ne a1.symm]; exact j1, j2.imp fun _ _ z => z.tk tkk⟩, by rw [upd_ne a2.symm]; exact h.rl,
    ⟨⟨ra, vs ++ [v], rfl, upd_same, (kv.imp fun _ _ z => z.tk tkk).app ⟨kl.tk tkk, trivial⟩⟩, rows_put tkk (fun y hy z => nd.1 (z ▸ hy)) h.rs.2⟩, ⟨gs, by rw [upd_ne a3.symm]; exact g1, g2.imp fun _ _ z => z.tk tkk⟩, h.nd, h.n1, h.n2, h.n3, h.n4, h.n5, same_mut h.sm (h.o5 ra List.mem_cons_self), h.o1, h.o2, h.o3, h.o4, h.o5⟩
end
theorem l_new (a b c d : V) : (fsT a b c d).lookup ("new_words" : Str) = some a := by rfl
theorem l_jobs (a b c d : V) : (fsT a b c d).lookup ("jobs" : Str) = some b := by rfl
theorem l_rows (a b c d : V) : (fsT a b c d).lookup ("rows" : Str) = some c := by rfl
theorem l_got (a b c d : V) : (fsT a b c d).lookup ("got" : Str) = some d := by rfl
section
variable {P : Program} {w : World} {K : PySem.W.Frag} {mg : Str → Option Value} {base : Heap} {CN CT : Addr}
/-! ### jobs_done -/
def spJdone : Sp := fun vs H Q _ => ∃ (p a : Addr) (t : Tm) (j : Str), vs = [.ref p, .ref a, .str j] ∧ At H t a ∧ ∀ r H' us, H r = none → Same H H' → H' r = some (.lst us) → All2 (JbV H') (doneJ t j) us → Q (.ref r) H'
abbrev sJdone : Stmt := inClass (top 18) 3
theorem scJdone : FnScope ["self", "term", "j"] ["self", "term", "j"] (defScope sJdone) := ⟨rfl, rfl, rfl, by decide +kernel, rfl, by decide +kernel, by decide +kernel⟩
theorem ok_jdone {f f1 : Addr} {fd d1 : FuncData} (F : Fun K "jobs_done" "Turning.jobs_done" sJdone f fd) (Gjobs_to_end : FnOk P w K mg base CX0 1 f1 d1 ["term", "j"] spJend) (Rjobs_to_end : Ref K mg "jobs_to_end" f1 d1 ["term", "j"]) : FnOk P w K mg base CX0 2 f fd ["self", "term", "j"] spJdone := by
  refine F.ok scJdone (fun vs H Q E h => ?_) (fun cdv A outer s H vs Q E hr h => ?_)
  · obtain ⟨p, a, t, j, rfl, _⟩ := h
    rfl
  obtain ⟨p, a, t, j, rfl, hA, q⟩ := h
  refine ⟨_, (pss_cons (ps_if (pt_cmpR op_eq (pe_ix ix_tup (pv 1) pe_int (fun _ _ => rfl)) pe_str (nomark _)) (pss_one (ps_ret (pe_lst (pa_cons (pe_tup (pa_cons pe_str (pa_cons (pe_ix ix_tup (pv 1) pe_int (fun _ _ => rfl)) (pa_cons (pe_ix ix_tup (pv 1) pe_int (fun _ _ => rfl)) pa_nil)))) (pa_cons (pe_tup (pa_cons pe_str (pa_cons (pe_ix ix_tup (pv 1) pe_int (fun _ _ => rfl)) (pa_cons (pv 2) pa_nil)))) pa_nil))))) pss_nil)
    (pss_one (ps_ret (pe_lst (StX.pa_star (pe_call Gjobs_to_end (hr.mono (by omega)) rfl Rjobs_to_end.m Rjobs_to_end.k Rjobs_to_end.b .nil pass0 (pa_cons (pv 1) (pa_cons (pv 2) pa_nil))) (pa_cons (pe_tup (pa_cons pe_str pa_nil)) pa_nil)))))), ?_⟩
  obtain ⟨xs, l, kx⟩ := hA.kids
  obtain ⟨r0, hd⟩ := l.head
  have hlk := kx.len
  refine ⟨_, rfl, a, _, _, _, rfl, rfl, SqT.of hd, at0, rfl, _, rfl, ?_⟩
  refine ite2 (fun c => ?_) (fun c => ?_)
  · obtain ⟨x, hh⟩ := hs_let (V.str.inj (of_decide_eq_true c))
    rw [hh] at l
    obtain ⟨u1, u2, e2⟩ := two_of (show (kidsT t).length = 2 by rw [← hlk]; exact l.1)
    have eE : doneJ t j = [.put u1 x, .done u2 j] := by
      unfold doneJ
      rw [hh, e2]
    rw [eE] at q
    rw [e2] at kx
    obtain ⟨v1, v2, rfl, ⟨b1, rfl, g1⟩, ⟨b2, rfl, g2⟩⟩ := all2_two kx
    have la : H a = some (.tup [.str "let", .str x, .ref b1, .ref b2]) := l.2
    refine ⟨_, rfl, a, _, _, _, rfl, rfl, SqT.of la, at2, _, rfl, a, _, _, _, rfl, rfl, SqT.of la, at1, sz (by show 3 ≤ 100000; decide), fun t1 ht1 => ?_⟩
    have s1 := same_new ht1 (.tup [.str "put", .ref b1, .str x])
    refine ⟨_, rfl, a, _, _, _, rfl, rfl, SqT.of (s1 _ _ la), at3, _, rfl, sz (by show 3 ≤ 100000; decide), fun t2 ht2 => ?_⟩
    have s2 := same_new ht2 (.tup [.str "done", .ref b2, .str j])
    refine ⟨sz (by show 2 ≤ 100000; decide), fun r hr2 => ?_⟩
    have s3 := same_new hr2 (.lst [.ref t1, .ref t2])
    have s13 := s1.trans (s2.trans s3)
    exact q r _ _ ((s1.trans s2).free hr2) s13 upd_same ⟨⟨t1, rfl, b1, (s2.trans s3) _ _ upd_same, g1.tk (tk_same s13)⟩, ⟨t2, rfl, b2, s3 _ _ upd_same, g2.tk (tk_same s13)⟩, trivial⟩
  · have eE : doneJ t j = endJ t j ++ [.close] := by
      unfold doneJ
      cases hh : hdT t with
      | lett x => rw [hh] at c; exact absurd (decide_eq_true rfl) c
      | _ => rfl
    rw [eE] at q
    refine ⟨_, rfl, _, rfl, a, t, j, rfl, hA, fun r1 H1 us1 hr1 s1 h1 k1 => ?_⟩
    have hl1 := len_wJs (endJ t j)
    have hul := k1.len
    refine ⟨r1, us1, rfl, .inr (SqL.of h1), sz (by show 1 ≤ 100000; decide), fun t1 ht1 => ?_⟩
    have s2 := same_new ht1 (.tup [.str "close"])
    have hcn : (endJ t j).length ≤ 10 := by
      have ha := hA.ar
      unfold arN at ha
      unfold endJ
      cases hh : hdT t with
      | ask g =>
        rw [hh] at ha
        have h4 : (kidsT t).length ≤ 4 := ha
        show ((kidsT t).map Jb.simple ++ [Jb.ask g (kidsT t).length j]).length ≤ 10
        rw [List.length_append, List.length_map, List.length_singleton]
        omega
      | iff =>
        rw [hh] at ha
        obtain ⟨u1, u2, u3, e3⟩ := three_of (show (kidsT t).length = 3 from ha)
        rw [e3]
        show 6 ≤ 10
        decide
      | _ => show 2 ≤ 10; decide
    refine ⟨sz (by rw [List.length_append, List.length_singleton]; omega), fun r hr2 => ?_⟩
    have s3 := same_new hr2 (.lst (us1 ++ [.ref t1]))
    have s12 := s1.trans s2
    exact q r _ _ (s12.free hr2) (s12.trans s3) upd_same ((k1.imp fun _ _ z => JbV.tk (tk_same (s2.trans s3)) z).app ⟨⟨t1, rfl, s3 _ _ upd_same⟩, trivial⟩)
theorem endJ_len {t : Tm} {j : Str} (ha : arN t) : (endJ t j).length ≤ 10 := by
  unfold arN at ha
  unfold endJ
  cases hh : hdT t with
  | ask g =>
    rw [hh] at ha
    have h4 : (kidsT t).length ≤ 4 := ha
    show ((kidsT t).map Jb.simple ++ [Jb.ask g (kidsT t).length j]).length ≤ 10
    rw [List.length_append, List.length_map, List.length_singleton]
    omega
  | iff =>
    rw [hh] at ha
    obtain ⟨u1, u2, u3, e3⟩ := three_of (show (kidsT t).length = 3 from ha)
    rw [e3]
    show 6 ≤ 10
    decide
  | _ => show 2 ≤ 10; decide
/-! ### jobs_put, jobs_simple -/
def spJput (CN CT : Addr) : Sp := fun vs H Q _ => ∃ (H0 : Hp) (A : TuA) (tk : List Str) (c : Cg) (ras : List Addr) (a : Addr) (t : Tm) (x : Str), vs = [.ref A.p, .ref a, .str x] ∧ TuAt CN CT H0 H A tk c ras ∧ At H t a ∧ c.m + tk.length + 2 < 26 ^ 9 ∧
  ∀ r H' us w m', (wordH (hdT t) = true → NwR tk c.m w m') → (wordH (hdT t) = false → m' = c.m) → TK H H' → TuAt CN CT H0 H' A tk { c with m := m' } ras → H' r = some (.lst us) → All2 (JbV H') (putJ t x w) us → Q (.ref r) H'
abbrev sJput : Stmt := inClass (top 18) 4
theorem scJput : FnScope ["self", "term", "x", "j"] ["self", "term", "x"] (defScope sJput) := ⟨rfl, rfl, rfl, by decide +kernel, rfl, by decide +kernel, by decide +kernel⟩
theorem ok_jput (X : TxN K mg CN CT) {f f1 fm : Addr} {fd d1 dm : FuncData} (F : Fun K "jobs_put" "Turning.jobs_put" sJput f fd) (Gjobs_to_end : FnOk P w K mg base CX0 1 f1 d1 ["term", "j"] spJend) (Rjobs_to_end : Ref K mg "jobs_to_end" f1 d1 ["term", "j"])
    (GM : FnOk P w K mg base CX0 2 fm dm ["self"] (spMore CN)) (bM : Binds K dm ["self"] []) (mM : Meth K CN "one_more" fm) : FnOk P w K mg base CX0 3 f fd ["self", "term", "x"] (spJput CN CT) := by
  refine F.ok scJput (fun vs H Q E h => ?_) (fun cdv A outer s H vs Q E hr h => ?_)
  · obtain ⟨H0, A, tk, c, ras, a, t, x, rfl, _⟩ := h
    rfl
  obtain ⟨H0, A, tk, c, ras, a, t, x, rfl, hT, hA, hm, q⟩ := h
  refine ⟨_, (pss_cons (ps_if (pt_cmpR op_eq (pe_ix ix_tup (pv 1) pe_int (fun _ _ => rfl)) pe_str (nomark _)) (pss_one (ps_ret (pe_lst (pa_cons (pe_tup (pa_cons pe_str (pa_cons (pe_ix ix_tup (pv 1) pe_int (fun _ _ => rfl)) (pa_cons (pe_ix ix_tup (pv 1) pe_int (fun _ _ => rfl)) pa_nil)))) (pa_cons (pe_tup (pa_cons pe_str (pa_cons (pe_ix ix_tup (pv 1) pe_int (fun _ _ => rfl)) (pa_cons (pv 2) pa_nil)))) pa_nil))))) pss_nil)
    (pss_cons (ps_if (pt_cmpR op_in_seq (pe_ix ix_tup (pv 1) pe_int (fun _ _ => rfl)) (pe_tup (pa_cons pe_str (pa_cons pe_str pa_nil))) rfl) (pss_cons (ps_set (i := 3) scJput.nd rfl (Or.inl rfl) (pe_meth0 (pe_fld (pv 0) rfl) X.clN mM GM (hr.mono (by omega)) bM .nil pass0))
    (pss_one (ps_ret (pe_lst (StX.pa_star (pe_call Gjobs_to_end (hr.mono (by omega)) rfl Rjobs_to_end.m Rjobs_to_end.k Rjobs_to_end.b .nil pass0 (pa_cons (pv 1) (pa_cons (pv 3) pa_nil))) (pa_cons (pe_tup (pa_cons pe_str (pa_cons (pv 3) (pa_cons (pv 2) pa_nil)))) pa_nil)))))) pss_nil)
    (pss_cons (ps_if (pt_cmpR op_eq (pe_ix ix_tup (pv 1) pe_int (fun _ _ => rfl)) pe_str (nomark _)) (pss_one (ps_ret (pe_lst (pa_cons (pe_tup (pa_cons pe_str (pa_cons (pe_ix ix_tup (pv 1) pe_int (fun _ _ => rfl)) pa_nil))) (pa_cons (pe_tup (pa_cons pe_str (pa_cons (pv 2) pa_nil))) pa_nil))))) pss_nil)
    (pss_one (ps_ret (pe_lst (pa_cons (pe_tup (pa_cons pe_str (pa_cons (pv 1) pa_nil))) (pa_cons (pe_tup (pa_cons pe_str (pa_cons (pv 2) pa_nil))) pa_nil)))))))), ?_⟩
  obtain ⟨xs, l, kx⟩ := hA.kids
  obtain ⟨r0, hd⟩ := l.head
  have hlk := kx.len
  refine ⟨_, rfl, a, _, _, _, rfl, rfl, SqT.of hd, at0, rfl, _, rfl, ?_⟩
  refine ite2 (fun c0 => ?_) (fun c0 => ?_)
  · obtain ⟨y, hh⟩ := hs_let (V.str.inj (of_decide_eq_true c0))
    rw [hh] at l
    obtain ⟨u1, u2, e2⟩ := two_of (show (kidsT t).length = 2 by rw [← hlk]; exact l.1)
    have eE : ∀ w, putJ t x w = [.put u1 y, .put u2 x] := fun w => by
      unfold putJ
      rw [hh, e2]
    rw [e2] at kx
    obtain ⟨v1, v2, rfl, ⟨b1, rfl, g1⟩, ⟨b2, rfl, g2⟩⟩ := all2_two kx
    have la : H a = some (.tup [.str "let", .str y, .ref b1, .ref b2]) := l.2
    refine ⟨_, rfl, a, _, _, _, rfl, rfl, SqT.of la, at2, _, rfl, a, _, _, _, rfl, rfl, SqT.of la, at1, sz (by show 3 ≤ 100000; decide), fun t1 ht1 => ?_⟩
    have s1 := same_new ht1 (.tup [.str "put", .ref b1, .str y])
    refine ⟨_, rfl, a, _, _, _, rfl, rfl, SqT.of (s1 _ _ la), at3, _, rfl, sz (by show 3 ≤ 100000; decide), fun t2 ht2 => ?_⟩
    have s2 := same_new ht2 (.tup [.str "put", .ref b2, .str x])
    refine ⟨sz (by show 2 ≤ 100000; decide), fun r hr2 => ?_⟩
    have s3 := same_new hr2 (.lst [.ref t1, .ref t2])
    have s13 := s1.trans (s2.trans s3)
    refine q r _ _ "" c.m (fun z => by rw [hh] at z; cases z) (fun _ => rfl) (tk_same s13) (hT.mono s13) upd_same ?_
    rw [eE]
    exact ⟨⟨t1, rfl, b1, (s2.trans s3) _ _ upd_same, g1.tk (tk_same s13)⟩, ⟨t2, rfl, b2, s3 _ _ upd_same, g2.tk (tk_same s13)⟩, trivial⟩
  refine ⟨_, rfl, a, _, _, _, rfl, rfl, SqT.of hd, at0, sz (by show 2 ≤ 100000; decide), fun t0 ht0 => ?_⟩
  have s0 := same_new ht0 (.tup [.str "ask", .str "if"])
  refine ⟨t0, _, rfl, .inr (SqT.of upd_same), rfl, rfl, _, rfl, ?_⟩
  have hin : inV (.str (hs (hdT t))) [.str "ask", .str "if"] = wordH (hdT t) := by
    cases hdT t <;> rfl
  have hT0 := hT.mono s0
  have hA0 := hA.tk (tk_same s0)
  have hd0 := s0 _ _ hd
  generalize upd H t0 (.tup [.str "ask", .str "if"]) = Ha at s0 hT0 hA0 hd0
  show if inV (.str (hs (hdT t))) [.str "ask", .str "if"] = true then _ else _
  rw [hin]
  cases hw : wordH (hdT t) with
  | true =>
    refine itT rfl ⟨_, rfl, A.p, CT, _, _, _, rfl, hT0.ob, X.clT, X.tNew, l_new _ _ _ _, A.nw, _, _, rfl, hT0.nw.ob, by rfl, A.nw, A.dN, A.td, tk, c.m, rfl, hT0.nw, hm, fun w m' hwm => ?_⟩
    have hT1 := hT0.setM m'
    have tk1 : TK Ha (upd Ha A.nw (.ins CN A.dN (fsN (.ref A.td) (.int (m' : Int))))) := tk_upd hT0.nw.ob (by intro xs z; cases z)
    have hA1 := hA0.tk tk1
    generalize upd Ha A.nw (.ins CN A.dN (fsN (.ref A.td) (.int (m' : Int)))) = H1 at hT1 tk1 hA1
    have eE : putJ t x w = endJ t w ++ [.post w x] := by
      unfold putJ
      cases hh : hdT t with
      | ask g => rfl
      | iff => rfl
      | _ => rw [hh] at hw; cases hw
    refine ⟨_, rfl, _, rfl, a, t, w, rfl, hA1, fun r1 H2 us1 hr1 s2 h2 k2 => ?_⟩
    have hul := k2.len
    have hel := endJ_len (j := w) hA.ar
    refine ⟨r1, us1, rfl, .inr (SqL.of h2), _, rfl, _, rfl, sz (by show 3 ≤ 100000; decide), fun t1 ht1 => ?_⟩
    have s3 := same_new ht1 (.tup [.str "post", .str w, .str x])
    refine ⟨sz (by rw [List.length_append, List.length_singleton]; omega), fun r hr2 => ?_⟩
    have s4 := same_new hr2 (.lst (us1 ++ [.ref t1]))
    refine q r _ _ w m' (fun _ => hwm) (fun z => by rw [hw] at z; cases z) ((tk_same s0).trans (tk1.trans (tk_same (s2.trans (s3.trans s4))))) (hT1.mono (s2.trans (s3.trans s4))) upd_same ?_
    rw [eE]
    exact (k2.imp fun _ _ z => JbV.tk (tk_same (s3.trans s4)) z).app ⟨⟨t1, rfl, s4 _ _ upd_same⟩, trivial⟩
  | false =>
    refine itF rfl ⟨_, rfl, a, _, _, _, rfl, rfl, SqT.of hd0, at0, rfl, _, rfl, ?_⟩
    refine ite2 (fun c2 => ?_) (fun c2 => ?_)
    · have hh := hs_tell (V.str.inj (of_decide_eq_true c2))
      rw [hh] at l
      obtain ⟨u1, e1⟩ := one_of (show (kidsT t).length = 1 by rw [← hlk]; exact l.1)
      have eE : ∀ w, putJ t x w = [.simple u1, .tell x] := fun w => by
        unfold putJ
        rw [hh, e1]
      rw [e1] at kx
      obtain ⟨v1, rfl, b1, rfl, g1⟩ := all2_one kx
      have la : Ha a = some (.tup [.str "tell", .ref b1]) := s0 _ _ l.2
      refine ⟨_, rfl, a, _, _, _, rfl, rfl, SqT.of la, at1, sz (by show 2 ≤ 100000; decide), fun t1 ht1 => ?_⟩
      have s1 := same_new ht1 (.tup [.str "simple", .ref b1])
      refine ⟨_, rfl, sz (by show 2 ≤ 100000; decide), fun t2 ht2 => ?_⟩
      have s2 := same_new ht2 (.tup [.str "tell", .str x])
      refine ⟨sz (by show 2 ≤ 100000; decide), fun r hr2 => ?_⟩
      have s3 := same_new hr2 (.lst [.ref t1, .ref t2])
      have s13 := s1.trans (s2.trans s3)
      refine q r _ _ "" c.m (fun z => by rw [hw] at z; cases z) (fun _ => rfl) (tk_same (s0.trans s13)) (hT0.mono s13) upd_same ?_
      rw [eE]
      exact ⟨⟨t1, rfl, b1, (s2.trans s3) _ _ upd_same, g1.tk (tk_same (s0.trans s13))⟩, ⟨t2, rfl, s3 _ _ upd_same⟩, trivial⟩
    · have eE : ∀ w, putJ t x w = [.simple t, .lett x] := fun w => by
        unfold putJ
        cases hh : hdT t with
        | lett y => rw [hh] at c0; exact absurd (decide_eq_true rfl) c0
        | tell => rw [hh] at c2; exact absurd (decide_eq_true rfl) c2
        | ask g => rw [hh] at hw; cases hw
        | iff => rw [hh] at hw; cases hw
        | _ => rfl
      refine ⟨_, rfl, sz (by show 2 ≤ 100000; decide), fun t1 ht1 => ?_⟩
      have s1 := same_new ht1 (.tup [.str "simple", .ref a])
      refine ⟨_, rfl, sz (by show 2 ≤ 100000; decide), fun t2 ht2 => ?_⟩
      have s2 := same_new ht2 (.tup [.str "let", .str x])
      refine ⟨sz (by show 2 ≤ 100000; decide), fun r hr2 => ?_⟩
      have s3 := same_new hr2 (.lst [.ref t1, .ref t2])
      have s13 := s1.trans (s2.trans s3)
      refine q r _ _ "" c.m (fun z => by rw [hw] at z; cases z) (fun _ => rfl) (tk_same (s0.trans s13)) (hT0.mono s13) upd_same ?_
      rw [eE]
      exact ⟨⟨t1, rfl, a, (s2.trans s3) _ _ upd_same, hA0.tk (tk_same s13)⟩, ⟨t2, rfl, s3 _ _ upd_same⟩, trivial⟩
end
end KB

namespace KB
open PySem L2 HT
section
variable {P : Program} {w : World} {K : PySem.W.Frag} {mg : Str → Option Value} {base : Heap} {CN CT : Addr}
def spJsimp (CN CT : Addr) : Sp := fun vs H Q _ => ∃ (H0 : Hp) (A : TuA) (tk : List Str) (c : Cg) (ras : List Addr) (a : Addr) (t : Tm), vs = [.ref A.p, .ref a] ∧ TuAt CN CT H0 H A tk c ras ∧ At H t a ∧ c.m + tk.length + 2 < 26 ^ 9 ∧
  ∀ r H' us w m', (wordS (hdT t) = true → NwR tk c.m w m') → (wordS (hdT t) = false → m' = c.m) → TK H H' → TuAt CN CT H0 H' A tk { c with m := m' } ras → H' r = some (.lst us) → All2 (JbV H') (simpJ t w) us → Q (.ref r) H'
abbrev sJsimp : Stmt := inClass (top 18) 5
theorem scJsimp : FnScope ["self", "term", "x"] ["self", "term"] (defScope sJsimp) := ⟨rfl, rfl, rfl, by decide +kernel, rfl, by decide +kernel, by decide +kernel⟩
theorem ok_jsimp (X : TxN K mg CN CT) {f fm : Addr} {fd dm : FuncData} (F : Fun K "jobs_simple" "Turning.jobs_simple" sJsimp f fd)
    (GM : FnOk P w K mg base CX0 2 fm dm ["self"] (spMore CN)) (bM : Binds K dm ["self"] []) (mM : Meth K CN "one_more" fm) : FnOk P w K mg base CX0 3 f fd ["self", "term"] (spJsimp CN CT) := by
  refine F.ok scJsimp (fun vs H Q E h => ?_) (fun cdv A outer s H vs Q E hr h => ?_)
  · obtain ⟨H0, A, tk, c, ras, a, t, rfl, _⟩ := h
    rfl
  obtain ⟨H0, A, tk, c, ras, a, t, rfl, hT, hA, hm, q⟩ := h
  refine ⟨_, (pss_cons (ps_if (pt_cmpR op_in_seq (pe_ix ix_tup (pv 1) pe_int (fun _ _ => rfl)) (pe_tup (pa_cons pe_str (pa_cons pe_str pa_nil))) rfl) (pss_one (ps_ret (pe_lst (pa_cons (pe_tup (pa_cons pe_str (pa_cons (pv 1) pa_nil))) pa_nil)))) pss_nil)
    (pss_cons (ps_if (pt_cmpR op_in_seq (pe_ix ix_tup (pv 1) pe_int (fun _ _ => rfl)) (pe_tup (pa_cons pe_str (pa_cons pe_str pa_nil))) rfl) (pss_one (ps_ret (pe_lst (pa_cons (pe_tup (pa_cons pe_str (pa_cons (pe_ix ix_tup (pv 1) pe_int (fun _ _ => rfl)) pa_nil))) (pa_cons (pe_tup (pa_cons pe_str (pa_cons (pe_ix ix_tup (pv 1) pe_int (fun _ _ => rfl)) pa_nil))) (pa_cons (pe_tup (pa_cons (pe_ix ix_tup (pv 1) pe_int (fun _ _ => rfl)) pa_nil)) pa_nil)))))) pss_nil)
    (pss_cons (ps_if (pt_cmpR op_eq (pe_ix ix_tup (pv 1) pe_int (fun _ _ => rfl)) pe_str (nomark _)) (pss_one (ps_ret (pe_lst (pa_cons (pe_tup (pa_cons pe_str (pa_cons (pe_ix ix_tup (pv 1) pe_int (fun _ _ => rfl)) (pa_cons (pe_ix ix_tup (pv 1) pe_int (fun _ _ => rfl)) pa_nil)))) (pa_cons (pe_tup (pa_cons pe_str (pa_cons (pe_ix ix_tup (pv 1) pe_int (fun _ _ => rfl)) pa_nil))) pa_nil))))) pss_nil)
    (pss_cons (ps_set (i := 2) scJsimp.nd rfl (Or.inl rfl) (pe_meth0 (pe_fld (pv 0) rfl) X.clN mM GM (hr.mono (by omega)) bM .nil pass0))
    (pss_one (ps_ret (pe_lst (pa_cons (pe_tup (pa_cons pe_str (pa_cons (pv 1) (pa_cons (pv 2) pa_nil)))) (pa_cons (pe_tup (pa_cons pe_str (pa_cons (pe_tup (pa_cons pe_str (pa_cons (pv 2) pa_nil))) pa_nil))) pa_nil))))))))), ?_⟩
  obtain ⟨xs, l, kx⟩ := hA.kids
  obtain ⟨r0, hd⟩ := l.head
  have hlk := kx.len
  -- ("number", "name")
  refine ⟨_, rfl, a, _, _, _, rfl, rfl, SqT.of hd, at0, sz (by show 2 ≤ 100000; decide), fun t0 ht0 => ?_⟩
  have s0 := same_new ht0 (.tup [.str "number", .str "name"])
  refine ⟨t0, _, rfl, .inr (SqT.of upd_same), rfl, rfl, _, rfl, ?_⟩
  have hT0 := hT.mono s0
  have hA0 := hA.tk (tk_same s0)
  have l0 := l.mono s0
  have kx0 := kx.imp fun _ _ z => RefV.tk (tk_same s0) z
  have hd0 := s0 _ _ hd
  generalize upd H t0 (.tup [.str "number", .str "name"]) = Ha at s0 hT0 hA0 l0 kx0 hd0
  clear hd l kx
  have leaf : (hs (hdT t) = "number" ∨ hs (hdT t) = "name") → ∀ w, simpJ t w = [.known t] := fun z w => by
    unfold simpJ
    cases hh : hdT t <;> rw [hh] at z <;> dsimp only [hs] at z <;> first | rfl | (exfalso; revert z; decide)
  show if inV (.str (hs (hdT t))) [.str "number", .str "name"] = true then _ else _
  by_cases c1 : inV (.str (hs (hdT t))) [.str "number", .str "name"] = true
  · refine itT c1 ⟨_, rfl, sz (by show 2 ≤ 100000; decide), fun t1 ht1 => ?_⟩
    have hz : hs (hdT t) = "number" ∨ hs (hdT t) = "name" := by
      cases hh : hdT t <;> rw [hh] at c1 <;> dsimp only [hs] at c1 <;> first | exact .inl rfl | exact .inr rfl | (exfalso; revert c1; decide)
    have s1 := same_new ht1 (.tup [.str "known", .ref a])
    refine ⟨sz (by show 1 ≤ 100000; decide), fun r hr2 => ?_⟩
    have s2 := same_new hr2 (.lst [.ref t1])
    have s12 := s1.trans s2
    have nw : wordS (hdT t) = false := by
      cases hh : hdT t <;> rw [hh] at hz <;> dsimp only [hs] at hz <;> first | rfl | (exfalso; revert hz; decide)
    refine q r _ _ "" c.m (fun z => by rw [nw] at z; cases z) (fun _ => rfl) (tk_same (s0.trans s12)) (hT0.mono s12) upd_same ?_
    rw [leaf hz]
    exact ⟨⟨t1, rfl, a, s2 _ _ upd_same, hA0.tk (tk_same s12)⟩, trivial⟩
  refine itF (Bool.eq_false_iff.mpr c1) ?_
  -- ("plus", "less")
  refine ⟨_, rfl, a, _, _, _, rfl, rfl, SqT.of hd0, at0, sz (by show 2 ≤ 100000; decide), fun t2 ht2 => ?_⟩
  have s2 := same_new ht2 (.tup [.str "plus", .str "less"])
  refine ⟨t2, _, rfl, .inr (SqT.of upd_same), rfl, rfl, _, rfl, ?_⟩
  have hT2 := hT0.mono s2
  have hA2 := hA0.tk (tk_same s2)
  have l2 := l0.mono s2
  have kx2 := kx0.imp fun _ _ z => RefV.tk (tk_same s2) z
  have hd2 := s2 _ _ hd0
  have s02 := s0.trans s2
  generalize upd Ha t2 (.tup [.str "plus", .str "less"]) = Hb at s2 s02 hT2 hA2 l2 kx2 hd2
  have opW : ∀ (b : Bool), hdT t = (if b then Hd.less else Hd.plus) → ∃ u1 u2 b1 b2, (∀ w, simpJ t w = [.simple u1, .simple u2, .op b]) ∧ Hb a = some (.tup [.str (if b then "less" else "plus"), .ref b1, .ref b2]) ∧ At Hb u1 b1 ∧ At Hb u2 b2 := fun b hh => by
    rw [hh] at l2
    have h2 : (kidsT t).length = 2 := by
      rw [← hlk]
      cases b <;> exact l2.1
    obtain ⟨u1, u2, e2⟩ := two_of h2
    rw [e2] at kx2
    obtain ⟨v1, v2, e3, ⟨b1, e4, g1⟩, ⟨b2, e5, g2⟩⟩ := all2_two kx2
    subst e3 e4 e5
    refine ⟨u1, u2, b1, b2, fun w => ?_, ?_, g1, g2⟩
    · unfold simpJ
      rw [hh, e2]
      cases b <;> rfl
    · cases b <;> exact l2.2
  show if inV (.str (hs (hdT t))) [.str "plus", .str "less"] = true then _ else _
  by_cases c2 : inV (.str (hs (hdT t))) [.str "plus", .str "less"] = true
  · have hz : ∃ b : Bool, hdT t = (if b then Hd.less else Hd.plus) := by
      cases hh : hdT t <;> rw [hh] at c2 <;> dsimp only [hs] at c2 <;> first | exact ⟨false, rfl⟩ | exact ⟨true, rfl⟩ | (exfalso; revert c2; decide)
    obtain ⟨b, hh⟩ := hz
    obtain ⟨u1, u2, b1, b2, eE, la, g1, g2⟩ := opW b hh
    refine itT c2 ⟨_, rfl, a, _, _, _, rfl, rfl, SqT.of la, at1, sz (by show 2 ≤ 100000; decide), fun t3 ht3 => ?_⟩
    have s3 := same_new ht3 (.tup [.str "simple", .ref b1])
    refine ⟨_, rfl, a, _, _, _, rfl, rfl, SqT.of (s3 _ _ la), at2, sz (by show 2 ≤ 100000; decide), fun t4 ht4 => ?_⟩
    have s4 := same_new ht4 (.tup [.str "simple", .ref b2])
    refine ⟨_, rfl, a, _, _, _, rfl, rfl, SqT.of ((s3.trans s4) _ _ la), at0, sz (by show 1 ≤ 100000; decide), fun t5 ht5 => ?_⟩
    have s5 := same_new ht5 (.tup [.str (if b then "less" else "plus")])
    refine ⟨sz (by show 3 ≤ 100000; decide), fun r hr2 => ?_⟩
    have s6 := same_new hr2 (.lst [.ref t3, .ref t4, .ref t5])
    have s36 := s3.trans (s4.trans (s5.trans s6))
    have nw : wordS (hdT t) = false := by
      rw [hh]
      cases b <;> rfl
    refine q r _ _ "" c.m (fun z => by rw [nw] at z; cases z) (fun _ => rfl) (tk_same (s02.trans s36)) (hT2.mono s36) upd_same ?_
    rw [eE]
    exact ⟨⟨t3, rfl, b1, (s4.trans (s5.trans s6)) _ _ upd_same, g1.tk (tk_same s36)⟩, ⟨t4, rfl, b2, (s5.trans s6) _ _ upd_same, g2.tk (tk_same s36)⟩, ⟨t5, rfl, s6 _ _ upd_same⟩, trivial⟩
  refine itF (Bool.eq_false_iff.mpr c2) ?_
  refine ⟨_, rfl, a, _, _, _, rfl, rfl, SqT.of hd2, at0, rfl, _, rfl, ?_⟩
  refine ite2 (fun c3 => ?_) (fun c3 => ?_)
  · obtain ⟨y, hh⟩ := hs_let (V.str.inj (of_decide_eq_true c3))
    rw [hh] at l2
    obtain ⟨u1, u2, e2⟩ := two_of (show (kidsT t).length = 2 by rw [← hlk]; exact l2.1)
    have eE : ∀ w, simpJ t w = [.put u1 y, .simple u2] := fun w => by
      unfold simpJ
      rw [hh, e2]
    rw [e2] at kx2
    obtain ⟨v1, v2, rfl, ⟨b1, rfl, g1⟩, ⟨b2, rfl, g2⟩⟩ := all2_two kx2
    have la : Hb a = some (.tup [.str "let", .str y, .ref b1, .ref b2]) := l2.2
    refine ⟨_, rfl, a, _, _, _, rfl, rfl, SqT.of la, at2, _, rfl, a, _, _, _, rfl, rfl, SqT.of la, at1, sz (by show 3 ≤ 100000; decide), fun t3 ht3 => ?_⟩
    have s3 := same_new ht3 (.tup [.str "put", .ref b1, .str y])
    refine ⟨_, rfl, a, _, _, _, rfl, rfl, SqT.of (s3 _ _ la), at3, sz (by show 2 ≤ 100000; decide), fun t4 ht4 => ?_⟩
    have s4 := same_new ht4 (.tup [.str "simple", .ref b2])
    refine ⟨sz (by show 2 ≤ 100000; decide), fun r hr2 => ?_⟩
    have s5 := same_new hr2 (.lst [.ref t3, .ref t4])
    have s35 := s3.trans (s4.trans s5)
    have nw : wordS (hdT t) = false := by rw [hh]; rfl
    refine q r _ _ "" c.m (fun z => by rw [nw] at z; cases z) (fun _ => rfl) (tk_same (s02.trans s35)) (hT2.mono s35) upd_same ?_
    rw [eE]
    exact ⟨⟨t3, rfl, b1, (s4.trans s5) _ _ upd_same, g1.tk (tk_same s35)⟩, ⟨t4, rfl, b2, s5 _ _ upd_same, g2.tk (tk_same s35)⟩, trivial⟩
  · have nw : wordS (hdT t) = true := by
      cases hh : hdT t with
      | num z => rw [hh] at c1; exact absurd rfl c1
      | nam z => rw [hh] at c1; exact absurd rfl c1
      | plus => rw [hh] at c2; exact absurd rfl c2
      | less => rw [hh] at c2; exact absurd rfl c2
      | lett y => rw [hh] at c3; exact absurd (decide_eq_true rfl) c3
      | _ => rfl
    have eE : ∀ w, simpJ t w = [.put t w, .known (mkL (.nam w) [])] := fun w => by
      unfold simpJ
      cases hh : hdT t <;> rw [hh] at nw <;> first | rfl | cases nw
    refine ⟨_, rfl, A.p, CT, _, _, _, rfl, hT2.ob, X.clT, X.tNew, l_new _ _ _ _, A.nw, _, _, rfl, hT2.nw.ob, by rfl, A.nw, A.dN, A.td, tk, c.m, rfl, hT2.nw, hm, fun w m' hwm => ?_⟩
    have hT3 := hT2.setM m'
    have tk3 : TK Hb (upd Hb A.nw (.ins CN A.dN (fsN (.ref A.td) (.int (m' : Int))))) := tk_upd hT2.nw.ob (by intro xs z; cases z)
    have hA3 := hA2.tk tk3
    generalize upd Hb A.nw (.ins CN A.dN (fsN (.ref A.td) (.int (m' : Int)))) = H1 at hT3 tk3 hA3
    refine ⟨_, rfl, _, rfl, sz (by show 3 ≤ 100000; decide), fun t4 ht4 => ?_⟩
    have s4 := same_new ht4 (.tup [.str "put", .ref a, .str w])
    refine ⟨_, rfl, sz (by show 2 ≤ 100000; decide), fun t5 ht5 => ?_⟩
    have s5 := same_new ht5 (.tup [.str "name", .str w])
    refine ⟨sz (by show 2 ≤ 100000; decide), fun t6 ht6 => ?_⟩
    have s6 := same_new ht6 (.tup [.str "known", .ref t5])
    refine ⟨sz (by show 2 ≤ 100000; decide), fun r hr2 => ?_⟩
    have s7 := same_new hr2 (.lst [.ref t4, .ref t6])
    have s47 := s4.trans (s5.trans (s6.trans s7))
    refine q r _ _ w m' (fun _ => hwm) (fun z => by rw [nw] at z; cases z) ((tk_same s02).trans (tk3.trans (tk_same s47))) (hT3.mono s47) upd_same ?_
    rw [eE]
    exact ⟨⟨t4, rfl, a, (s5.trans (s6.trans s7)) _ _ upd_same, hA3.tk (tk_same s47)⟩, ⟨t6, rfl, t5, s7 _ _ upd_same, at_mkL (vs := []) ⟨rfl, (s6.trans s7) _ _ upd_same⟩ trivial⟩, trivial⟩
/-! ### jobs_of -/
def mkJ (j : Jb) (w : Str) : List Jb := match j with | .done t j => doneJ t j | .put t x => putJ t x w | .simple t => simpJ t w | _ => []
def wordJ : Jb → Bool | .put t _ => wordH (hdT t) | .simple t => wordS (hdT t) | _ => false
def isMk : Jb → Bool | .done _ _ | .put _ _ | .simple _ => true | _ => false
def spJof (CN CT : Addr) : Sp := fun vs H Q _ => ∃ (H0 : Hp) (A : TuA) (tk : List Str) (c : Cg) (ras : List Addr) (b : Addr) (j : Jb), vs = [.ref A.p, .ref b] ∧ TuAt CN CT H0 H A tk c ras ∧ JbA H b j ∧ isMk j = true ∧ c.m + tk.length + 2 < 26 ^ 9 ∧
  ∀ r H' us w m', (wordJ j = true → NwR tk c.m w m') → (wordJ j = false → m' = c.m) → TuAt CN CT H0 H' A tk { c with m := m' } ras → H' r = some (.lst us) → All2 (JbV H') (mkJ j w) us → Q (.ref r) H'
abbrev sJof : Stmt := inClass (top 18) 2
theorem scJof : FnScope ["self", "job"] ["self", "job"] (defScope sJof) := ⟨rfl, rfl, rfl, by decide +kernel, rfl, by decide +kernel, by decide +kernel⟩
theorem ok_jof (X : TxN K mg CN CT) {f g1 g2 g3 : Addr} {fd d1 d2 d3 : FuncData} (F : Fun K "jobs_of" "Turning.jobs_of" sJof f fd) (G1 : FnOk P w K mg base CX0 2 g1 d1 ["self", "term", "j"] spJdone) (b1 : Binds K d1 ["self", "term", "j"] []) (m1 : Meth K CT "jobs_done" g1)
    (G2 : FnOk P w K mg base CX0 3 g2 d2 ["self", "term", "x"] (spJput CN CT)) (b2 : Binds K d2 ["self", "term", "x"] []) (m2 : Meth K CT "jobs_put" g2) (G3 : FnOk P w K mg base CX0 3 g3 d3 ["self", "term"] (spJsimp CN CT)) (b3 : Binds K d3 ["self", "term"] []) (m3 : Meth K CT "jobs_simple" g3) :
    FnOk P w K mg base CX0 4 f fd ["self", "job"] (spJof CN CT) := by
  refine F.ok scJof (fun vs H Q E h => ?_) (fun cdv A outer s H vs Q E hr h => ?_)
  · obtain ⟨H0, A, tk, c, ras, b, j, rfl, _⟩ := h
    rfl
  obtain ⟨H0, A, tk, c, ras, b, j, rfl, hT, hJ, hj, hm, q⟩ := h
  refine ⟨_, (pss_cons (ps_if (pt_cmpR op_eq (pe_ix ix_tup (pv 1) pe_int (fun _ _ => rfl)) pe_str (nomark _)) (pss_one (ps_ret (pe_meth (pv 0) X.clT m1 G1 (hr.mono (by omega)) b1 .nil pass0 (pa_cons (pe_ix ix_tup (pv 1) pe_int (fun _ _ => rfl)) (pa_cons (pe_ix ix_tup (pv 1) pe_int (fun _ _ => rfl)) pa_nil))))) pss_nil)
    (pss_cons (ps_if (pt_cmpR op_eq (pe_ix ix_tup (pv 1) pe_int (fun _ _ => rfl)) pe_str (nomark _)) (pss_one (ps_ret (pe_meth (pv 0) X.clT m2 G2 (hr.mono (by omega)) b2 .nil pass0 (pa_cons (pe_ix ix_tup (pv 1) pe_int (fun _ _ => rfl)) (pa_cons (pe_ix ix_tup (pv 1) pe_int (fun _ _ => rfl)) pa_nil))))) pss_nil)
    (pss_one (ps_ret (pe_meth (pv 0) X.clT m3 G3 (hr.mono (by omega)) b3 .nil pass0 (pa_cons (pe_ix ix_tup (pv 1) pe_int (fun _ _ => rfl)) pa_nil)))))), ?_⟩
  cases j with
  | done t j =>
    obtain ⟨a, h1, h2⟩ := hJ
    refine ⟨_, rfl, b, _, _, _, rfl, rfl, SqT.of h1, at0, rfl, _, rfl, itT rfl ⟨_, rfl, A.p, _, _, rfl, hT.ob, by rfl, _, rfl, b, _, _, _, rfl, rfl, SqT.of h1, at1, _, rfl, b, _, _, _, rfl, rfl, SqT.of h1, at2, A.p, a, t, j, rfl, h2, fun r H' us hr' s1 g1 k1 => ?_⟩⟩
    exact q r H' us "" c.m (fun z => by cases z) (fun _ => rfl) (hT.mono s1) g1 k1
  | put t x =>
    obtain ⟨a, h1, h2⟩ := hJ
    refine ⟨_, rfl, b, _, _, _, rfl, rfl, SqT.of h1, at0, rfl, _, rfl, itF rfl ⟨_, rfl, b, _, _, _, rfl, rfl, SqT.of h1, at0, rfl, _, rfl, itT rfl ⟨_, rfl, A.p, _, _, rfl, hT.ob, by rfl, _, rfl, b, _, _, _, rfl, rfl, SqT.of h1, at1, _, rfl, b, _, _, _, rfl, rfl, SqT.of h1, at2,
      H0, A, tk, c, ras, a, t, x, rfl, hT, h2, hm, fun r H' us w m' g1 g2 tk1 g3 g4 g5 => ?_⟩⟩⟩
    exact q r H' us w m' g1 g2 g3 g4 g5
  | simple t =>
    obtain ⟨a, h1, h2⟩ := hJ
    refine ⟨_, rfl, b, _, _, _, rfl, rfl, SqT.of h1, at0, rfl, _, rfl, itF rfl ⟨_, rfl, b, _, _, _, rfl, rfl, SqT.of h1, at0, rfl, _, rfl, itF rfl ⟨_, rfl, A.p, _, _, rfl, hT.ob, by rfl, _, rfl, b, _, _, _, rfl, rfl, SqT.of h1, at1,
      H0, A, tk, c, ras, a, t, rfl, hT, h2, hm, fun r H' us w m' g1 g2 tk1 g3 g4 g5 => ?_⟩⟩⟩
    exact q r H' us w m' g1 g2 g3 g4 g5
  | _ => cases hj
end
end KB

namespace KB
open PySem L2 HT
theorem popE {v : V} {r : List V} : ((v :: r).reverse).dropLast = r.reverse := by rw [List.reverse_cons, List.dropLast_concat]
theorem taken_split {H : Hp} : ∀ {n : Nat} {got : List Gt} {gs : List V} {g' : List Bool}, All2 (GtV H) got gs → got.map kG = List.replicate n false ++ g' →
    ∃ (ts : List Tm) (G : List Gt) (gs1 gs2 : List V), got = (ts.map Gt.t).reverse ++ G ∧ ts.length = n ∧ gs = gs1.reverse ++ gs2 ∧ All2 (RefV H) ts gs1 ∧ All2 (GtV H) G gs2 ∧ gs1.length = n ∧ G.map kG = g'
  | 0, got, gs, g', h, e => ⟨[], got, [], gs, rfl, rfl, rfl, trivial, h, rfl, e⟩
  | n + 1, [], gs, g', h, e => by
    rw [List.replicate_succ] at e
    cases e
  | n + 1, g :: got, [], g', h, e => h.elim
  | n + 1, g :: got, v :: gs, g', h, e => by
    rw [List.replicate_succ, List.map_cons, List.cons_append] at e
    obtain ⟨e1, e2⟩ := List.cons.inj e
    obtain ⟨ts, G, gs1, gs2, a1, a2, a3, a4, a5, a6, a7⟩ := taken_split h.2 e2
    cases g with
    | p q => cases e1
    | t s =>
      obtain ⟨b, eb, hb⟩ := h.1
      refine ⟨ts ++ [s], G, gs1 ++ [v], gs2, ?_, ?_, ?_, a4.app ⟨⟨b, eb, hb⟩, trivial⟩, a5, ?_, a7⟩
      · rw [a1]
        simp
      · rw [List.length_append, a2]
        rfl
      · rw [a3]
        simp
      · rw [List.length_append, a6]
        rfl
theorem drop_rev {gs1 gs2 : List V} : ((gs1.reverse ++ gs2).reverse).drop (((gs1.reverse ++ gs2).reverse).length - gs1.length) = gs1 ∧ ((gs1.reverse ++ gs2).reverse).take (((gs1.reverse ++ gs2).reverse).length - gs1.length) = gs2.reverse := by
  have e : (gs1.reverse ++ gs2).reverse = gs2.reverse ++ gs1 := by simp
  rw [e]
  have e2 : (gs2.reverse ++ gs1).length - gs1.length = gs2.reverse.length := by
    rw [List.length_append]
    omega
  rw [e2]
  exact ⟨List.drop_left, List.take_left⟩
theorem last_at {l : List V} {x : V} : atI (l ++ [x]) (-1) = some x := by
  unfold atI ixN
  have e : (l ++ [x]).length = l.length + 1 := by rw [List.length_append]; rfl
  rw [if_neg (by decide), if_pos (by rw [e]; omega), e]
  have e2 : ((-1 : Int) + ((l.length + 1 : Nat) : Int)).toNat = l.length := by omega
  rw [e2]
  show (l ++ [x])[l.length]? = some x
  rw [List.getElem?_append_right (Nat.le_refl _), Nat.sub_self]
  rfl
theorem two_at {H : Hp} {l : Bool} {a b c : Addr} {s t : Tm} (h : H a = some (.tup [.str (if l then "less" else "plus"), .ref b, .ref c])) (h1 : At H s b) (h2 : At H t c) : At H (mkOp l s t) a := by
  unfold mkOp
  cases l
  · exact at_mkL (h := .plus) (vs := [.ref b, .ref c]) ⟨rfl, h⟩ ⟨⟨b, rfl, h1⟩, ⟨c, rfl, h2⟩, trivial⟩
  · exact at_mkL (h := .less) (vs := [.ref b, .ref c]) ⟨rfl, h⟩ ⟨⟨b, rfl, h1⟩, ⟨c, rfl, h2⟩, trivial⟩
section
variable {P : Program} {w : World} {K : PySem.W.Frag} {mg : Str → Option Value} {base : Heap} {CN CT : Addr}
/-! ### last_taken -/
def spLast : Sp := fun vs H Q _ => ∃ (gl : Addr) (xs : List V) (n : Nat), vs = [.ref gl, .int (n : Int)] ∧ H gl = some (.lst xs) ∧ n ≤ xs.length ∧
  ∀ H2 v, Same H H2 → H2 v = some (.tup (xs.drop (xs.length - n))) → Q (.ref v) (upd H2 gl (.lst (xs.take (xs.length - n))))
abbrev slast_taken : Stmt := top 2
theorem sclast_taken : FnScope ["got", "many", "first", "taken"] ["got", "many"] (defScope slast_taken) := ⟨rfl, rfl, rfl, by decide +kernel, rfl, by decide +kernel, by decide +kernel⟩
theorem ok_last (T : Txt K mg) {f : Addr} {fd : FuncData} (F : Fun K "last_taken" "last_taken" slast_taken f fd) : FnOk P w K mg base CX0 1 f fd ["got", "many"] spLast := by
  refine F.ok sclast_taken (fun vs H Q E h => ?_) (fun cdv A outer s H vs Q E hr h => ?_)
  · obtain ⟨gl, xs, n, rfl, _⟩ := h
    rfl
  obtain ⟨gl, xs, n, rfl, hg, hn, q⟩ := h
  refine ⟨_, pss_cons (ps_set (i := 2) sclast_taken.nd rfl (Or.inl rfl) (pe_op op_sub (pe_callB call_len_seq (by rfl) T.m_len PySem.boot_len (pa_cons (pv 0) pa_nil)) (pv 1)))
    (pss_cons (ps_set (i := 3) sclast_taken.nd rfl (Or.inl rfl) (pe_callTy call_tuple_of (by rfl) T.m_tuple (by decide +kernel) (pa_cons (pe_slice sl_list (pv 0) (po_some (pv 2)) po_none) pa_nil)))
    (pss_cons (ps_delFrom (pv 0) (pv 2)) (pss_one (ps_ret (pv 3))))), ?_⟩
  refine ⟨_, rfl, gl, _, rfl, .inl (SqL.of hg), _, rfl, _, _, rfl, rfl, ?_⟩
  have efirst : (xs.length : Int) - (n : Int) = ((xs.length - n : Nat) : Int) := by omega
  refine ⟨_, rfl, _, rfl, _, rfl, gl, _, rfl, SqL.of hg, fun u hu => ⟨u, _, rfl, .inl ⟨SqL.of upd_same, fun v hv => ?_⟩⟩⟩
  have ecut : cutV xs (some ((xs.length : Int) - (n : Int))) none = xs.drop (xs.length - n) := by
    rw [efirst, cut_from (by omega) (by omega), Int.toNat_natCast]
  have sA := (same_new hu (.lst (cutV xs (some ((xs.length : Int) - (n : Int))) none))).trans (same_new hv (.tup (cutV xs (some ((xs.length : Int) - (n : Int))) none)))
  have hv2 : upd (upd H u (.lst (cutV xs (some ((xs.length : Int) - (n : Int))) none))) v (.tup (cutV xs (some ((xs.length : Int) - (n : Int))) none)) v = some (.tup (xs.drop (xs.length - n))) := by
    rw [upd_same, ecut]
  exact ⟨_, rfl, _, rfl, _, rfl, gl, xs, xs.length - n, rfl, congrArg some efirst, sA _ _ hg, Nat.sub_le _ _, _, rfl, q _ _ sA hv2⟩
/-! ### finish -/
structure SzC (c : Cg) : Prop where
  r : c.rows.length ≤ 5000
  g : c.got.length ≤ 5000
  l : ∀ r ∈ c.rows, r.length ≤ 5000
def spFin (CN CT : Addr) : Sp := fun vs H Q _ => ∃ (H0 : Hp) (A : TuA) (tk : List Str) (c : Cg) (ras : List Addr) (b : Addr) (j : Jb), vs = [.ref A.p, .ref b] ∧ TuAt CN CT H0 H A tk c ras ∧ JbA H b j ∧ isMk j = false ∧ okJ (j :: c.jobs) c.rows.length (c.got.map kG) ∧ SzC c ∧
  ∀ H' R1 G1 ras', FinJ j c.rows c.got R1 G1 → TuAt CN CT H0 H' A tk { c with rows := R1, got := G1 } ras' → Q .non H'
abbrev sFin : Stmt := inClass (top 18) 6
theorem scFin : FnScope ["self", "job", "head"] ["self", "job"] (defScope sFin) := ⟨rfl, rfl, rfl, by decide +kernel, rfl, by decide +kernel, by decide +kernel⟩
theorem TuAt.top {H0 H : Hp} {A : TuA} {tk : List Str} {J : List Jb} {r : List Ld} {R : List (List Ld)} {G : List Gt} {m : Nat} {ras : List Addr} (h : TuAt CN CT H0 H A tk ⟨J, r :: R, G, m⟩ ras) : ∃ ra ras' vs, ras = ra :: ras' ∧ H ra = some (.lst vs) ∧ All2 (LdV H) r vs := by
  have hr := h.rs
  match ras, hr with
  | ra :: ras', ⟨⟨x, vs, e1, h1, h2⟩, _⟩ => cases e1; exact ⟨ra, ras', vs, rfl, h1, h2⟩
theorem ok_fin (T : Txt K mg) (X : TxN K mg CN CT) {f f1 f2 : Addr} {fd d1 d2 : FuncData} (F : Fun K "finish" "Turning.finish" sFin f fd) (Gput_ahead : FnOk P w K mg base CX0 1 f1 d1 ["leads", "part"] spAhead) (Rput_ahead : Ref K mg "put_ahead" f1 d1 ["leads", "part"])
    (Glast_taken : FnOk P w K mg base CX0 1 f2 d2 ["got", "many"] spLast) (Rlast_taken : Ref K mg "last_taken" f2 d2 ["got", "many"]) : FnOk P w K mg base CX0 2 f fd ["self", "job"] (spFin CN CT) := by
  refine F.ok scFin (fun vs H Q E h => ?_) (fun cdv A outer s H vs Q E hr h => ?_)
  · obtain ⟨H0, A, tk, c, ras, b, j, rfl, _⟩ := h
    rfl
  obtain ⟨H0, A, tk, ⟨J, R, G, m⟩, ras, b, j, rfl, hT, hJ, hj, ho, hz, q⟩ := h
  refine ⟨_, (pss_cons (ps_set (i := 2) scFin.nd rfl (Or.inl rfl) (pe_ix ix_tup (pv 1) pe_int (fun _ _ => rfl)))
    (pss_one (ps_if (pt_cmpR op_eq (pv 2) pe_str (nomark _)) (pss_one (ps_expr (pe_bm PySem.F.plainAttrs_list PySem.F.slot_list_append PySem.F.type_list_append mt_append (pe_fld (pv 0) rfl) (pa_cons (pe_lst pa_nil) pa_nil)))) (pss_one (ps_if (pt_cmpR op_eq (pv 2) pe_str (nomark _)) (pss_one (ps_expr (pe_bm PySem.F.plainAttrs_list PySem.F.slot_list_append PySem.F.type_list_append mt_append (pe_fld (pv 0) rfl) (pa_cons (pe_call Gput_ahead (hr.mono (by omega)) rfl Rput_ahead.m Rput_ahead.k Rput_ahead.b .nil pass0 (pa_cons (pe_bm0 PySem.F.plainAttrs_list PySem.F.slot_list_pop PySem.F.type_list_pop mt_pop (pe_fld (pv 0) rfl)) (pa_cons (pe_bm0 PySem.F.plainAttrs_list PySem.F.slot_list_pop PySem.F.type_list_pop mt_pop (pe_fld (pv 0) rfl)) pa_nil))) pa_nil)))) (pss_one (ps_if (pt_cmpR op_in_seq (pv 2) (pe_tup (pa_cons pe_str (pa_cons pe_str (pa_cons pe_str pa_nil)))) rfl) (pss_one (ps_expr (pe_bm PySem.F.plainAttrs_list PySem.F.slot_list_append PySem.F.type_list_append mt_append (pe_ix ix_list (pe_fld (pv 0) rfl) (pe_un un_neg pe_int) (fun _ _ => rfl)) (pa_cons (pe_tup (StX.pa_star (pv 1) (pa_cons (pe_bm0 PySem.F.plainAttrs_list PySem.F.slot_list_pop PySem.F.type_list_pop mt_pop (pe_fld (pv 0) rfl)) pa_nil))) pa_nil)))) (pss_one (ps_if (pt_cmpR op_eq (pv 2) pe_str (nomark _)) (pss_one (ps_expr (pe_bm PySem.F.plainAttrs_list PySem.F.slot_list_append PySem.F.type_list_append mt_append (pe_fld (pv 0) rfl) (pa_cons (pe_ix ix_tup (pv 1) pe_int (fun _ _ => rfl)) pa_nil)))) (pss_one (ps_if (pt_cmpR op_eq (pv 2) pe_str (nomark _)) (pss_one (ps_expr (pe_bm PySem.F.plainAttrs_list PySem.F.slot_list_append PySem.F.type_list_append mt_append (pe_fld (pv 0) rfl) (pa_cons (pe_tup (pa_cons (pv 2) (pa_cons (pe_ix ix_tup (pv 1) pe_int (fun _ _ => rfl)) (pa_cons (pe_call Glast_taken (hr.mono (by omega)) rfl Rlast_taken.m Rlast_taken.k Rlast_taken.b .nil pass0 (pa_cons (pe_fld (pv 0) rfl) (pa_cons (pe_ix ix_tup (pv 1) pe_int (fun _ _ => rfl)) pa_nil))) (pa_cons (pe_ix ix_tup (pv 1) pe_int (fun _ _ => rfl)) pa_nil))))) pa_nil)))) (pss_one (ps_if (pt_cmpR op_eq (pv 2) pe_str (nomark _)) (pss_one (ps_expr (pe_bm PySem.F.plainAttrs_list PySem.F.slot_list_append PySem.F.type_list_append mt_append (pe_fld (pv 0) rfl) (pa_cons (pe_tup (StX.pa_star (pv 1) (pa_cons (pe_bm0 PySem.F.plainAttrs_list PySem.F.slot_list_pop PySem.F.type_list_pop mt_pop (pe_fld (pv 0) rfl)) pa_nil))) pa_nil)))) (pss_one (ps_if (pt_cmpR op_eq (pv 2) pe_str (nomark _)) (pss_one (ps_expr (pe_bm PySem.F.plainAttrs_list PySem.F.slot_list_append PySem.F.type_list_append mt_append (pe_fld (pv 0) rfl) (pa_cons (pe_tup (pa_cons (pv 2) (StX.pa_star (pe_call Glast_taken (hr.mono (by omega)) rfl Rlast_taken.m Rlast_taken.k Rlast_taken.b .nil pass0 (pa_cons (pe_fld (pv 0) rfl) (pa_cons pe_int pa_nil))) pa_nil))) pa_nil)))) (pss_one (ps_expr (pe_bm PySem.F.plainAttrs_list PySem.F.slot_list_append PySem.F.type_list_append mt_append (pe_fld (pv 0) rfl) (pa_cons (pe_tup (pa_cons (pv 2) (StX.pa_star (pe_call Glast_taken (hr.mono (by omega)) rfl Rlast_taken.m Rlast_taken.k Rlast_taken.b .nil pass0 (pa_cons (pe_fld (pv 0) rfl) (pa_cons pe_int pa_nil))) pa_nil))) pa_nil))))))))))))))))))), ?_⟩

  obtain ⟨gs, hg1, hg2⟩ := hT.gs
  have hgl : gs.length = G.length := hg2.len
  have hzg : G.length ≤ 5000 := hz.g
  have hzr : R.length ≤ 5000 := hz.r
  have hrl : ras.length = R.length := by
    have := hT.rs.len
    rw [List.length_map] at this
    exact this
  cases j with
  | done t j => cases hj
  | put t x => cases hj
  | simple t => cases hj
  | row =>
    have h1 : H b = some (.tup [.str "row"]) := hJ
    refine ⟨_, rfl, b, _, _, _, rfl, rfl, SqT.of h1, at0, ?_⟩
    refine ⟨_, rfl, rfl, _, rfl, itT rfl ?_⟩
    refine ⟨_, rfl, A.p, CT, _, _, _, rfl, hT.ob, X.clT, X.tRows, l_rows _ _ _ _, .inl ⟨rfl, _, SqL.of hT.rl⟩, sz (by show 0 ≤ 100000; decide), fun ra hra => ?_⟩
    refine ⟨A.rl, _, _, rfl, rfl, same_new hra _ _ _ hT.rl, Nat.lt_of_le_of_lt (m := 5000) (by rw [List.length_reverse, List.length_map]; omega) (by decide), ?_⟩
    have hP := hT.pushRow hra
    rw [List.map_cons, List.reverse_cons] at hP
    exact q _ _ _ _ .row hP
  | close =>
    have h1 : H b = some (.tup [.str "close"]) := hJ
    obtain ⟨r', g', e1, e2, _⟩ := ho
    match R, G, gs with
    | r :: R, .p p0 :: G, v :: gs =>
      obtain ⟨⟨b1, rfl, hb1⟩, hg3⟩ := hg2
      obtain ⟨ra, ras', vs, rfl, hv, kv⟩ := hT.top
      refine ⟨_, rfl, b, _, _, _, rfl, rfl, SqT.of h1, at0, ?_⟩
      refine ⟨_, rfl, rfl, _, rfl, itF rfl ⟨_, rfl, rfl, _, rfl, itT rfl ?_⟩⟩
      refine ⟨_, rfl, A.p, CT, _, _, _, rfl, hT.ob, X.clT, X.tGot, l_got _ _ _ _, .inl ⟨rfl, _, SqL.of hg1⟩, ?_⟩
      refine ⟨_, rfl, A.p, CT, _, _, _, rfl, hT.ob, X.clT, X.tRows, l_rows _ _ _ _, .inl ⟨rfl, _, SqL.of hT.rl⟩, A.rl, _, .ref ra, rfl, rfl, hT.rl, by simp, ?_⟩
      rw [List.map_cons, popE]
      have hT1 : TuAt CN CT H0 (upd H A.rl (.lst (ras'.map V.ref).reverse)) A tk ⟨J, R, .p p0 :: G, m⟩ ras' := TuAt.popRow (c := ⟨J, [], .p p0 :: G, m⟩) hT
      have hv1 : upd H A.rl (.lst (ras'.map V.ref).reverse) ra = some (.lst vs) := by
        rw [upd_ne (hT.n5 ra List.mem_cons_self).2.1]
        exact hv
      have tk1 : TK H (upd H A.rl (.lst (ras'.map V.ref).reverse)) := tk_put hT.rl
      have hg4 : upd H A.rl (.lst (ras'.map V.ref).reverse) A.gl = some (.lst ((V.ref b1 :: gs).reverse)) := by
        rw [upd_ne hT.n3.symm]
        exact hg1
      have kv1 := kv.imp fun _ _ z => z.tk tk1
      have hb2 := PAt.tk tk1 hb1
      have hg5 := hg3.imp fun _ _ z => z.tk tk1
      have nrg : ra ≠ A.gl := (hT.n5 ra List.mem_cons_self).2.2
      generalize upd H A.rl (.lst (ras'.map V.ref).reverse) = H1 at hT1 hv1 tk1 hg4 kv1 hb2 hg5
      refine ⟨_, rfl, A.p, CT, _, _, _, rfl, hT1.ob, X.clT, X.tGot, l_got _ _ _ _, .inl ⟨rfl, _, SqL.of hg4⟩, A.gl, _, .ref b1, rfl, rfl, hg4, by simp, ?_⟩
      rw [popE]
      have hT2 : TuAt CN CT H0 (upd H1 A.gl (.lst gs.reverse)) A tk ⟨J, R, G, m⟩ ras' := hT1.setGot hg5
      have tk2 : TK H1 (upd H1 A.gl (.lst gs.reverse)) := tk_put hg4
      refine ⟨ra, b1, vs, r, p0, rfl, by rw [upd_ne nrg]; exact hv1, kv1.imp fun _ _ z => z.tk tk2, PAt.tk tk2 hb2, fun H3 b3 s3 h3 => ?_⟩
      have hT3 := hT2.mono s3
      have hgl3 : H3 A.gl = some (.lst gs.reverse) := s3 _ _ upd_same
      have kg3 : All2 (GtV H3) G gs := (hg5.imp fun _ _ z => z.tk tk2).imp fun _ _ z => z.tk (tk_same s3)
      have hl3 := kg3.len
      rw [List.length_cons] at hzg
      refine ⟨A.gl, _, _, rfl, rfl, hgl3, Nat.lt_of_le_of_lt (m := 5000) (by rw [List.length_reverse]; omega) (by decide), ?_⟩
      have hT4 := hT3.setGot (G := .p (putAh r p0) :: G) (gs' := .ref b3 :: gs) ⟨⟨b3, rfl, h3⟩, kg3⟩
      rw [List.reverse_cons] at hT4
      exact q _ _ _ _ .close hT4
    | [], _, _ => cases e1
    | _ :: _, [], _ => cases e2
    | _ :: _, .t _ :: _, _ => cases e2
    | _ :: _, .p _ :: _, [] => exact hg2.elim
  | known t =>
    obtain ⟨b1, h1, h2⟩ := hJ
    refine ⟨_, rfl, b, _, _, _, rfl, rfl, SqT.of h1, at0, ?_⟩
    refine ⟨_, rfl, rfl, _, rfl, itF rfl ⟨_, rfl, rfl, _, rfl, itF rfl ⟨_, rfl, sz (by show 3 ≤ 100000; decide), fun t0 ht0 => ⟨t0, _, rfl, .inr (SqT.of upd_same), rfl, rfl, _, rfl, itF rfl ⟨_, rfl, rfl, _, rfl, itT rfl ?_⟩⟩⟩⟩⟩
    have s0 := same_new ht0 (.tup [.str "let", .str "tell", .str "post"])
    have hT0 := hT.mono s0
    have hg0 := s0 _ _ hg1
    have h10 := s0 _ _ h1
    have kg0 := hg2.imp fun _ _ z => z.tk (tk_same s0)
    refine ⟨_, rfl, A.p, CT, _, _, _, rfl, hT0.ob, X.clT, X.tGot, l_got _ _ _ _, .inl ⟨rfl, _, SqL.of hg0⟩, _, rfl, b, _, _, _, rfl, rfl, SqT.of h10, at1, A.gl, _, _, rfl, rfl, hg0, Nat.lt_of_le_of_lt (m := 5000) (by rw [List.length_reverse]; omega) (by decide), ?_⟩
    have hT4 := hT0.setGot (G := .t t :: G) (gs' := .ref b1 :: gs) ⟨⟨b1, rfl, h2.tk (tk_same s0)⟩, kg0⟩
    rw [List.reverse_cons] at hT4
    exact q _ _ _ _ .known hT4
  | lett x =>
    have h1 : H b = some (.tup [.str "let", .str x]) := hJ
    obtain ⟨g', e1, e2, _⟩ := ho
    match R, G, gs with
    | r :: R, .t s :: G, v :: gs =>
      obtain ⟨⟨b1, rfl, hb1⟩, hg3⟩ := hg2
      obtain ⟨ra, ras', vs, rfl, hv, kv⟩ := hT.top
      refine ⟨_, rfl, b, _, _, _, rfl, rfl, SqT.of h1, at0, ?_⟩
      refine ⟨_, rfl, rfl, _, rfl, itF rfl ⟨_, rfl, rfl, _, rfl, itF rfl ⟨_, rfl, sz (by show 3 ≤ 100000; decide), fun t0 ht0 => ⟨t0, _, rfl, .inr (SqT.of upd_same), rfl, rfl, _, rfl, itT rfl ?_⟩⟩⟩⟩
      have s0 := same_new ht0 (.tup [.str "let", .str "tell", .str "post"])
      have hT0 := hT.mono s0
      have hg0 := s0 _ _ hg1
      have h10 := s0 _ _ h1
      have hv0 := s0 _ _ hv
      have kv0 := kv.imp fun _ _ z => LdV.tk (tk_same s0) z
      have kg0 := hg3.imp fun _ _ z => GtV.tk (tk_same s0) z
      have hb0 := hb1.tk (tk_same s0)
      have hrl0 := hT0.rl
      rw [List.map_cons, List.reverse_cons] at hrl0
      generalize upd H t0 (.tup [.str "let", .str "tell", .str "post"]) = Ha at s0 hT0 hg0 h10 hv0 kv0 kg0 hb0 hrl0
      refine ⟨_, rfl, A.p, CT, _, _, _, rfl, hT0.ob, X.clT, X.tRows, l_rows _ _ _ _, 1, rfl, A.rl, _, _, _, rfl, rfl, SqL.of hrl0, last_at, .inl ⟨rfl, _, SqL.of hv0⟩, ?_⟩
      refine ⟨_, rfl, b, _, rfl, .inl (SqT.of h10), ?_⟩
      refine ⟨_, rfl, A.p, CT, _, _, _, rfl, hT0.ob, X.clT, X.tGot, l_got _ _ _ _, .inl ⟨rfl, _, SqL.of hg0⟩, A.gl, _, .ref b1, rfl, rfl, hg0, by simp, ?_⟩
      rw [popE]
      have hT1 : TuAt CN CT H0 (upd Ha A.gl (.lst gs.reverse)) A tk ⟨J, r :: R, G, m⟩ (ra :: ras') := hT0.setGot kg0
      have tk1 : TK Ha (upd Ha A.gl (.lst gs.reverse)) := tk_put hg0
      have hv1 : upd Ha A.gl (.lst gs.reverse) ra = some (.lst vs) := by
        rw [upd_ne (hT.n5 ra List.mem_cons_self).2.2]
        exact hv0
      have kv1 := kv0.imp fun _ _ z => z.tk tk1
      have hb2 := hb0.tk tk1
      generalize upd Ha A.gl (.lst gs.reverse) = Hb at hT1 tk1 hv1 kv1 hb2
      refine ⟨sz (by show 3 ≤ 100000; decide), fun t2 ht2 => ?_⟩
      have s2 := same_new ht2 (.tup [.str "let", .str x, .ref b1])
      have hT2 := hT1.mono s2
      have hv2 := s2 _ _ hv1
      have kv2 := kv1.imp fun _ _ z => LdV.tk (tk_same s2) z
      have hlv := kv2.len
      have hz1 := hz.l r List.mem_cons_self
      refine ⟨ra, _, _, rfl, rfl, hv2, Nat.lt_of_le_of_lt (m := 5000) (by omega) (by decide), ?_⟩
      have hT3 := TuAt.addLead (c := ⟨J, [], G, m⟩) (l := .lett x s) (v := .ref t2) hT2 hv2 kv2 ⟨t2, b1, rfl, upd_same, hb2.tk (tk_same s2)⟩
      exact q _ _ _ _ .lett hT3
    | [], _, _ => cases e1
    | _ :: _, [], _ => cases e2
    | _ :: _, .p _ :: _, _ => cases e2
    | _ :: _, .t _ :: _, [] => exact hg2.elim
  | tell x =>
    have h1 : H b = some (.tup [.str "tell", .str x]) := hJ
    obtain ⟨g', e1, e2, _⟩ := ho
    match R, G, gs with
    | r :: R, .t s :: G, v :: gs =>
      obtain ⟨⟨b1, rfl, hb1⟩, hg3⟩ := hg2
      obtain ⟨ra, ras', vs, rfl, hv, kv⟩ := hT.top
      refine ⟨_, rfl, b, _, _, _, rfl, rfl, SqT.of h1, at0, ?_⟩
      refine ⟨_, rfl, rfl, _, rfl, itF rfl ⟨_, rfl, rfl, _, rfl, itF rfl ⟨_, rfl, sz (by show 3 ≤ 100000; decide), fun t0 ht0 => ⟨t0, _, rfl, .inr (SqT.of upd_same), rfl, rfl, _, rfl, itT rfl ?_⟩⟩⟩⟩
      have s0 := same_new ht0 (.tup [.str "let", .str "tell", .str "post"])
      have hT0 := hT.mono s0
      have hg0 := s0 _ _ hg1
      have h10 := s0 _ _ h1
      have hv0 := s0 _ _ hv
      have kv0 := kv.imp fun _ _ z => LdV.tk (tk_same s0) z
      have kg0 := hg3.imp fun _ _ z => GtV.tk (tk_same s0) z
      have hb0 := hb1.tk (tk_same s0)
      have hrl0 := hT0.rl
      rw [List.map_cons, List.reverse_cons] at hrl0
      generalize upd H t0 (.tup [.str "let", .str "tell", .str "post"]) = Ha at s0 hT0 hg0 h10 hv0 kv0 kg0 hb0 hrl0
      refine ⟨_, rfl, A.p, CT, _, _, _, rfl, hT0.ob, X.clT, X.tRows, l_rows _ _ _ _, 1, rfl, A.rl, _, _, _, rfl, rfl, SqL.of hrl0, last_at, .inl ⟨rfl, _, SqL.of hv0⟩, ?_⟩
      refine ⟨_, rfl, b, _, rfl, .inl (SqT.of h10), ?_⟩
      refine ⟨_, rfl, A.p, CT, _, _, _, rfl, hT0.ob, X.clT, X.tGot, l_got _ _ _ _, .inl ⟨rfl, _, SqL.of hg0⟩, A.gl, _, .ref b1, rfl, rfl, hg0, by simp, ?_⟩
      rw [popE]
      have hT1 : TuAt CN CT H0 (upd Ha A.gl (.lst gs.reverse)) A tk ⟨J, r :: R, G, m⟩ (ra :: ras') := hT0.setGot kg0
      have tk1 : TK Ha (upd Ha A.gl (.lst gs.reverse)) := tk_put hg0
      have hv1 : upd Ha A.gl (.lst gs.reverse) ra = some (.lst vs) := by
        rw [upd_ne (hT.n5 ra List.mem_cons_self).2.2]
        exact hv0
      have kv1 := kv0.imp fun _ _ z => z.tk tk1
      have hb2 := hb0.tk tk1
      generalize upd Ha A.gl (.lst gs.reverse) = Hb at hT1 tk1 hv1 kv1 hb2
      refine ⟨sz (by show 3 ≤ 100000; decide), fun t2 ht2 => ?_⟩
      have s2 := same_new ht2 (.tup [.str "tell", .str x, .ref b1])
      have hT2 := hT1.mono s2
      have hv2 := s2 _ _ hv1
      have kv2 := kv1.imp fun _ _ z => LdV.tk (tk_same s2) z
      have hlv := kv2.len
      have hz1 := hz.l r List.mem_cons_self
      refine ⟨ra, _, _, rfl, rfl, hv2, Nat.lt_of_le_of_lt (m := 5000) (by omega) (by decide), ?_⟩
      have hT3 := TuAt.addLead (c := ⟨J, [], G, m⟩) (l := .tell x s) (v := .ref t2) hT2 hv2 kv2 ⟨t2, b1, rfl, upd_same, hb2.tk (tk_same s2)⟩
      exact q _ _ _ _ .tell hT3
    | [], _, _ => cases e1
    | _ :: _, [], _ => cases e2
    | _ :: _, .p _ :: _, _ => cases e2
    | _ :: _, .t _ :: _, [] => exact hg2.elim
  | post j x =>
    have h1 : H b = some (.tup [.str "post", .str j, .str x]) := hJ
    obtain ⟨g', e1, e2, _⟩ := ho
    match R, G, gs with
    | r :: R, .p s :: G, v :: gs =>
      obtain ⟨⟨b1, rfl, hb1⟩, hg3⟩ := hg2
      obtain ⟨ra, ras', vs, rfl, hv, kv⟩ := hT.top
      refine ⟨_, rfl, b, _, _, _, rfl, rfl, SqT.of h1, at0, ?_⟩
      refine ⟨_, rfl, rfl, _, rfl, itF rfl ⟨_, rfl, rfl, _, rfl, itF rfl ⟨_, rfl, sz (by show 3 ≤ 100000; decide), fun t0 ht0 => ⟨t0, _, rfl, .inr (SqT.of upd_same), rfl, rfl, _, rfl, itT rfl ?_⟩⟩⟩⟩
      have s0 := same_new ht0 (.tup [.str "let", .str "tell", .str "post"])
      have hT0 := hT.mono s0
      have hg0 := s0 _ _ hg1
      have h10 := s0 _ _ h1
      have hv0 := s0 _ _ hv
      have kv0 := kv.imp fun _ _ z => LdV.tk (tk_same s0) z
      have kg0 := hg3.imp fun _ _ z => GtV.tk (tk_same s0) z
      have hb0 := PAt.tk (tk_same s0) hb1
      have hrl0 := hT0.rl
      rw [List.map_cons, List.reverse_cons] at hrl0
      generalize upd H t0 (.tup [.str "let", .str "tell", .str "post"]) = Ha at s0 hT0 hg0 h10 hv0 kv0 kg0 hb0 hrl0
      refine ⟨_, rfl, A.p, CT, _, _, _, rfl, hT0.ob, X.clT, X.tRows, l_rows _ _ _ _, 1, rfl, A.rl, _, _, _, rfl, rfl, SqL.of hrl0, last_at, .inl ⟨rfl, _, SqL.of hv0⟩, ?_⟩
      refine ⟨_, rfl, b, _, rfl, .inl (SqT.of h10), ?_⟩
      refine ⟨_, rfl, A.p, CT, _, _, _, rfl, hT0.ob, X.clT, X.tGot, l_got _ _ _ _, .inl ⟨rfl, _, SqL.of hg0⟩, A.gl, _, .ref b1, rfl, rfl, hg0, by simp, ?_⟩
      rw [popE]
      have hT1 : TuAt CN CT H0 (upd Ha A.gl (.lst gs.reverse)) A tk ⟨J, r :: R, G, m⟩ (ra :: ras') := hT0.setGot kg0
      have tk1 : TK Ha (upd Ha A.gl (.lst gs.reverse)) := tk_put hg0
      have hv1 : upd Ha A.gl (.lst gs.reverse) ra = some (.lst vs) := by
        rw [upd_ne (hT.n5 ra List.mem_cons_self).2.2]
        exact hv0
      have kv1 := kv0.imp fun _ _ z => z.tk tk1
      have hb2 := PAt.tk tk1 hb0
      generalize upd Ha A.gl (.lst gs.reverse) = Hb at hT1 tk1 hv1 kv1 hb2
      refine ⟨sz (by show 4 ≤ 100000; decide), fun t2 ht2 => ?_⟩
      have s2 := same_new ht2 (.tup [.str "post", .str j, .str x, .ref b1])
      have hT2 := hT1.mono s2
      have hv2 := s2 _ _ hv1
      have kv2 := kv1.imp fun _ _ z => LdV.tk (tk_same s2) z
      have hlv := kv2.len
      have hz1 := hz.l r List.mem_cons_self
      refine ⟨ra, _, _, rfl, rfl, hv2, Nat.lt_of_le_of_lt (m := 5000) (by omega) (by decide), ?_⟩
      have hT3 := TuAt.addLead (c := ⟨J, [], G, m⟩) (l := .post j x s) (v := .ref t2) hT2 hv2 kv2 ⟨t2, b1, rfl, upd_same, PAt.tk (tk_same s2) hb2⟩
      exact q _ _ _ _ .post hT3
    | [], _, _ => cases e1
    | _ :: _, [], _ => cases e2
    | _ :: _, .t _ :: _, _ => cases e2
    | _ :: _, .p _ :: _, [] => exact hg2.elim
  | ask f n j =>
    have h1 : H b = some (.tup [.str "ask", .str f, .int (n : Int), .str j]) := hJ
    obtain ⟨g', e1, _⟩ := ho
    refine ⟨_, rfl, b, _, _, _, rfl, rfl, SqT.of h1, at0, ?_⟩
    refine ⟨_, rfl, rfl, _, rfl, itF rfl ⟨_, rfl, rfl, _, rfl, itF rfl ⟨_, rfl, sz (by show 3 ≤ 100000; decide), fun t0 ht0 => ⟨t0, _, rfl, .inr (SqT.of upd_same), rfl, rfl, _, rfl, itF rfl ⟨_, rfl, rfl, _, rfl, itF rfl ⟨_, rfl, rfl, _, rfl, itT rfl ?_⟩⟩⟩⟩⟩⟩
    have s0 := same_new ht0 (.tup [.str "let", .str "tell", .str "post"])
    have hT0 := hT.mono s0
    have hg0 := s0 _ _ hg1
    have h10 := s0 _ _ h1
    generalize hHa : upd H t0 (.tup [.str "let", .str "tell", .str "post"]) = Ha at s0 hT0 hg0 h10
    obtain ⟨ts, G2, gs1, gs2, a1, a2, a3, a4, a5, a6, _⟩ := taken_split (hg2.imp fun _ _ z => GtV.tk (tk_same s0) z) e1
    subst a1 a2 a3
    have hd := drop_rev (gs1 := gs1) (gs2 := gs2)
    rw [a6] at hd
    refine ⟨_, rfl, A.p, CT, _, _, _, rfl, hT0.ob, X.clT, X.tGot, l_got _ _ _ _, .inl ⟨rfl, _, SqL.of hg0⟩, ?_⟩
    refine ⟨_, rfl, _, rfl, b, _, _, _, rfl, rfl, SqT.of h10, at1, ?_⟩
    refine ⟨_, rfl, A.p, CT, _, _, _, rfl, hT0.ob, X.clT, X.tGot, l_got _ _ _ _, _, rfl, b, _, _, _, rfl, rfl, SqT.of h10, at2, A.gl, _, ts.length, rfl, hg0, by simp; omega, fun H2 v s2 hv => ?_⟩
    rw [hd.1] at hv
    rw [hd.2]
    have hT2 := hT0.mono s2
    have a5' : All2 (GtV H2) G2 gs2 := a5.imp fun _ _ z => GtV.tk (tk_same s2) z
    have hT3 : TuAt CN CT H0 (upd H2 A.gl (.lst gs2.reverse)) A tk ⟨J, R, G2, m⟩ ras := hT2.setGot a5'
    have hgl2 := s2 _ _ hg0
    have tk3 : TK H2 (upd H2 A.gl (.lst gs2.reverse)) := tk_put hgl2
    have h13 := tk3 _ _ (s2 _ _ h10)
    have hv3 := tk3 _ _ hv
    have a43 : All2 (RefV (upd H2 A.gl (.lst gs2.reverse))) ts gs1 := a4.imp fun _ _ z => (RefV.tk (tk_same s2) z).tk tk3
    have hgl3 : upd H2 A.gl (.lst gs2.reverse) A.gl = some (.lst gs2.reverse) := upd_same
    have a53 : All2 (GtV (upd H2 A.gl (.lst gs2.reverse))) G2 gs2 := a5'.imp fun _ _ z => GtV.tk tk3 z
    generalize upd H2 A.gl (.lst gs2.reverse) = H3 at hT3 h13 hv3 a43 hgl3 a53 tk3
    refine ⟨_, rfl, b, _, _, _, rfl, rfl, SqT.of h13, at3, sz (by show 4 ≤ 100000; decide), fun t3 ht3 => ?_⟩
    have s4 := same_new ht3 (.tup [.str "ask", .str f, .ref v, .str j])
    have hT4 := hT3.mono s4
    have hl2 := a5.len
    rw [List.length_append] at hzg
    refine ⟨A.gl, _, _, rfl, rfl, s4 _ _ hgl3, Nat.lt_of_le_of_lt (m := 5000) (by rw [List.length_reverse]; omega) (by decide), ?_⟩
    have hT5 := hT4.setGot (G := .p (.ask f ts j) :: G2) (gs' := .ref t3 :: gs2) ⟨⟨t3, rfl, v, gs1, upd_same, s4 _ _ hv3, a43.imp fun _ _ z => RefV.tk (tk_same s4) z⟩, a53.imp fun _ _ z => GtV.tk (tk_same s4) z⟩
    rw [List.reverse_cons] at hT5
    exact q _ _ _ _ .ask hT5
  | give j =>
    have h1 : H b = some (.tup [.str "give", .str j]) := hJ
    obtain ⟨g', e2, _⟩ := ho
    match G, gs with
    | .t s :: G, v :: gs =>
      obtain ⟨⟨b1, rfl, hb1⟩, hg3⟩ := hg2
      refine ⟨_, rfl, b, _, _, _, rfl, rfl, SqT.of h1, at0, ?_⟩
      refine ⟨_, rfl, rfl, _, rfl, itF rfl ⟨_, rfl, rfl, _, rfl, itF rfl ⟨_, rfl, sz (by show 3 ≤ 100000; decide), fun t0 ht0 => ⟨t0, _, rfl, .inr (SqT.of upd_same), rfl, rfl, _, rfl, itF rfl ⟨_, rfl, rfl, _, rfl, itF rfl ⟨_, rfl, rfl, _, rfl, itF rfl ⟨_, rfl, rfl, _, rfl, itT rfl ?_⟩⟩⟩⟩⟩⟩⟩
      have s0 := same_new ht0 (.tup [.str "let", .str "tell", .str "post"])
      have hT0 := hT.mono s0
      have hg0 := s0 _ _ hg1
      have h10 := s0 _ _ h1
      generalize hHa : upd H t0 (.tup [.str "let", .str "tell", .str "post"]) = Ha at s0 hT0 hg0 h10
      have kg0 := hg3.imp fun _ _ z => GtV.tk (tk_same s0) z
      have hb0 := hb1.tk (tk_same s0)
      refine ⟨_, rfl, A.p, CT, _, _, _, rfl, hT0.ob, X.clT, X.tGot, l_got _ _ _ _, .inl ⟨rfl, _, SqL.of hg0⟩, ?_⟩
      refine ⟨_, rfl, b, _, rfl, .inl (SqT.of h10), ?_⟩
      refine ⟨_, rfl, A.p, CT, _, _, _, rfl, hT0.ob, X.clT, X.tGot, l_got _ _ _ _, .inl ⟨rfl, _, SqL.of hg0⟩, A.gl, _, .ref b1, rfl, rfl, hg0, by simp, ?_⟩
      rw [popE]
      have hT1 : TuAt CN CT H0 (upd Ha A.gl (.lst gs.reverse)) A tk ⟨J, R, G, m⟩ ras := hT0.setGot kg0
      have tk1 : TK Ha (upd Ha A.gl (.lst gs.reverse)) := tk_put hg0
      have kg1 := kg0.imp fun _ _ z => z.tk tk1
      have hb2 := hb0.tk tk1
      have hgl1 : upd Ha A.gl (.lst gs.reverse) A.gl = some (.lst gs.reverse) := upd_same
      generalize upd Ha A.gl (.lst gs.reverse) = Hb at hT1 tk1 kg1 hb2 hgl1
      refine ⟨sz (by show 3 ≤ 100000; decide), fun t2 ht2 => ?_⟩
      have s2 := same_new ht2 (.tup [.str "give", .str j, .ref b1])
      have hT2 := hT1.mono s2
      have hlg := kg1.len
      rw [List.length_cons] at hzg
      refine ⟨A.gl, _, _, rfl, rfl, s2 _ _ hgl1, Nat.lt_of_le_of_lt (m := 5000) (by rw [List.length_reverse]; omega) (by decide), ?_⟩
      have hT3 := hT2.setGot (G := .p (.give j s) :: G) (gs' := .ref t2 :: gs) ⟨⟨t2, rfl, b1, upd_same, hb2.tk (tk_same s2)⟩, kg1.imp fun _ _ z => GtV.tk (tk_same s2) z⟩
      rw [List.reverse_cons] at hT3
      exact q _ _ _ _ .give hT3
    | [], _ => cases e2
    | .p _ :: _, _ => cases e2
    | .t _ :: _, [] => exact hg2.elim
  | iff =>
    have h1 : H b = some (.tup [.str "if"]) := hJ
    obtain ⟨g', e2, _⟩ := ho
    match G, gs with
    | .p c0 :: .p c1 :: .t c2 :: G, v0 :: v1 :: v2 :: gs =>
      obtain ⟨⟨b0, rfl, hb0⟩, ⟨b1, rfl, hb1⟩, ⟨b2, rfl, hb2⟩, hg3⟩ := hg2
      refine ⟨_, rfl, b, _, _, _, rfl, rfl, SqT.of h1, at0, ?_⟩
      refine ⟨_, rfl, rfl, _, rfl, itF rfl ⟨_, rfl, rfl, _, rfl, itF rfl ⟨_, rfl, sz (by show 3 ≤ 100000; decide), fun t0 ht0 => ⟨t0, _, rfl, .inr (SqT.of upd_same), rfl, rfl, _, rfl, itF rfl ⟨_, rfl, rfl, _, rfl, itF rfl ⟨_, rfl, rfl, _, rfl, itF rfl ⟨_, rfl, rfl, _, rfl, itF rfl ⟨_, rfl, rfl, _, rfl, itT rfl ?_⟩⟩⟩⟩⟩⟩⟩⟩
      have s0 := same_new ht0 (.tup [.str "let", .str "tell", .str "post"])
      have hT0 := hT.mono s0
      have hg0 := s0 _ _ hg1
      have h10 := s0 _ _ h1
      generalize hHa : upd H t0 (.tup [.str "let", .str "tell", .str "post"]) = Ha at s0 hT0 hg0 h10
      have kg0 := hg3.imp fun _ _ z => GtV.tk (tk_same s0) z
      have hc0 := PAt.tk (tk_same s0) hb0
      have hc1 := PAt.tk (tk_same s0) hb1
      have hc2 := At.tk (tk_same s0) hb2
      refine ⟨_, rfl, A.p, CT, _, _, _, rfl, hT0.ob, X.clT, X.tGot, l_got _ _ _ _, .inl ⟨rfl, _, SqL.of hg0⟩, ?_⟩
      have hd := drop_rev (gs1 := [V.ref b2, V.ref b1, V.ref b0]) (gs2 := gs)
      have e9 : (V.ref b0 :: V.ref b1 :: V.ref b2 :: gs : List V) = [V.ref b2, V.ref b1, V.ref b0].reverse ++ gs := rfl
      rw [e9] at hg0
      refine ⟨_, rfl, _, rfl, A.p, CT, _, _, _, rfl, hT0.ob, X.clT, X.tGot, l_got _ _ _ _, A.gl, _, 3, rfl, hg0, by simp, fun H2 v s2 hv => ?_⟩
      have hv' : H2 v = some (.tup [V.ref b2, V.ref b1, V.ref b0]) := hv.trans (congrArg (fun z => some (HO.tup z)) hd.1)
      have hd2 : ([V.ref b2, V.ref b1, V.ref b0].reverse ++ gs).reverse.take (([V.ref b2, V.ref b1, V.ref b0].reverse ++ gs).reverse.length - 3) = gs.reverse := hd.2
      rw [hd2]
      have hT2 := hT0.mono s2
      have kg2 : All2 (GtV H2) G gs := kg0.imp fun _ _ z => GtV.tk (tk_same s2) z
      have hT3 : TuAt CN CT H0 (upd H2 A.gl (.lst gs.reverse)) A tk ⟨J, R, G, m⟩ ras := hT2.setGot kg2
      have tk3 : TK H2 (upd H2 A.gl (.lst gs.reverse)) := tk_put (s2 _ _ hg0)
      have hv3 := tk3 _ _ hv'
      have kg3 := kg2.imp fun _ _ z => GtV.tk tk3 z
      have tk03 := (tk_same s2).trans tk3
      have hd0 := PAt.tk tk03 hc0
      have hd1 := PAt.tk tk03 hc1
      have hd2x := At.tk tk03 hc2
      have hgl3 : upd H2 A.gl (.lst gs.reverse) A.gl = some (.lst gs.reverse) := upd_same
      generalize upd H2 A.gl (.lst gs.reverse) = H3 at hT3 hv3 kg3 tk3 tk03 hgl3 hd0 hd1 hd2x
      refine ⟨v, _, rfl, .inl (SqT.of hv3), sz (by show 4 ≤ 100000; decide), fun t3 ht3 => ?_⟩
      have s4 := same_new ht3 (.tup (.str "if" :: [V.ref b2, V.ref b1, V.ref b0]))
      have hT4 := hT3.mono s4
      have hlg := kg3.len
      simp only [List.length_cons] at hzg
      refine ⟨A.gl, _, _, rfl, rfl, s4 _ _ hgl3, Nat.lt_of_le_of_lt (m := 5000) (by rw [List.length_reverse]; omega) (by decide), ?_⟩
      have hT5 := hT4.setGot (G := .p (.iff c2 c1 c0) :: G) (gs' := .ref t3 :: gs) ⟨⟨t3, rfl, b2, b1, b0, upd_same, hd2x.tk (tk_same s4), PAt.tk (tk_same s4) hd1, PAt.tk (tk_same s4) hd0⟩, kg3.imp fun _ _ z => GtV.tk (tk_same s4) z⟩
      rw [List.reverse_cons] at hT5
      exact q _ _ _ _ .iff hT5
    | [], _ => cases e2
    | .t _ :: _, _ => cases e2
    | .p _ :: [], _ => cases e2
    | .p _ :: .t _ :: _, _ => cases e2
    | .p _ :: .p _ :: [], _ => cases e2
    | .p _ :: .p _ :: .p _ :: _, _ => cases e2
    | .p _ :: .p _ :: .t _ :: _, [] => exact hg2.elim
    | .p _ :: .p _ :: .t _ :: _, [_] => exact hg2.2.elim
    | .p _ :: .p _ :: .t _ :: _, [_, _] => exact hg2.2.2.elim
  | op l =>
    cases l with
    | false =>
      have h1 : H b = some (.tup [.str "plus"]) := hJ
      obtain ⟨g', e2, _⟩ := ho
      match G, gs with
      | .t c0 :: .t c1 :: G, v0 :: v1 :: gs =>
        obtain ⟨⟨b0, rfl, hb0⟩, ⟨b1, rfl, hb1⟩, hg3⟩ := hg2
        refine ⟨_, rfl, b, _, _, _, rfl, rfl, SqT.of h1, at0, ?_⟩
        refine ⟨_, rfl, rfl, _, rfl, itF rfl ⟨_, rfl, rfl, _, rfl, itF rfl ⟨_, rfl, sz (by show 3 ≤ 100000; decide), fun t0 ht0 => ⟨t0, _, rfl, .inr (SqT.of upd_same), rfl, rfl, _, rfl, itF rfl ⟨_, rfl, rfl, _, rfl, itF rfl ⟨_, rfl, rfl, _, rfl, itF rfl ⟨_, rfl, rfl, _, rfl, itF rfl ⟨_, rfl, rfl, _, rfl, itF rfl ?_⟩⟩⟩⟩⟩⟩⟩⟩
        have s0 := same_new ht0 (.tup [.str "let", .str "tell", .str "post"])
        have hT0 := hT.mono s0
        have hg0 := s0 _ _ hg1
        have h10 := s0 _ _ h1
        generalize hHa : upd H t0 (.tup [.str "let", .str "tell", .str "post"]) = Ha at s0 hT0 hg0 h10
        have kg0 := hg3.imp fun _ _ z => GtV.tk (tk_same s0) z
        have hc0 := At.tk (tk_same s0) hb0
        have hc1 := At.tk (tk_same s0) hb1
        refine ⟨_, rfl, A.p, CT, _, _, _, rfl, hT0.ob, X.clT, X.tGot, l_got _ _ _ _, .inl ⟨rfl, _, SqL.of hg0⟩, ?_⟩
        have hd := drop_rev (gs1 := [V.ref b1, V.ref b0]) (gs2 := gs)
        have e9 : (V.ref b0 :: V.ref b1 :: gs : List V) = [V.ref b1, V.ref b0].reverse ++ gs := rfl
        rw [e9] at hg0
        refine ⟨_, rfl, _, rfl, A.p, CT, _, _, _, rfl, hT0.ob, X.clT, X.tGot, l_got _ _ _ _, A.gl, _, 2, rfl, hg0, by simp, fun H2 v s2 hv => ?_⟩
        have hv' : H2 v = some (.tup [V.ref b1, V.ref b0]) := hv.trans (congrArg (fun z => some (HO.tup z)) hd.1)
        have hd2 : ([V.ref b1, V.ref b0].reverse ++ gs).reverse.take (([V.ref b1, V.ref b0].reverse ++ gs).reverse.length - 2) = gs.reverse := hd.2
        rw [hd2]
        have hT2 := hT0.mono s2
        have kg2 : All2 (GtV H2) G gs := kg0.imp fun _ _ z => GtV.tk (tk_same s2) z
        have hT3 : TuAt CN CT H0 (upd H2 A.gl (.lst gs.reverse)) A tk ⟨J, R, G, m⟩ ras := hT2.setGot kg2
        have tk3 : TK H2 (upd H2 A.gl (.lst gs.reverse)) := tk_put (s2 _ _ hg0)
        have hv3 := tk3 _ _ hv'
        have kg3 := kg2.imp fun _ _ z => GtV.tk tk3 z
        have tk03 := (tk_same s2).trans tk3
        have hd0 := At.tk tk03 hc0
        have hd1 := At.tk tk03 hc1
        have hgl3 : upd H2 A.gl (.lst gs.reverse) A.gl = some (.lst gs.reverse) := upd_same
        generalize upd H2 A.gl (.lst gs.reverse) = H3 at hT3 hv3 kg3 tk3 tk03 hgl3 hd0 hd1
        refine ⟨v, _, rfl, .inl (SqT.of hv3), sz (by show 3 ≤ 100000; decide), fun t3 ht3 => ?_⟩
        have s4 := same_new ht3 (.tup (.str "plus" :: [V.ref b1, V.ref b0]))
        have hT4 := hT3.mono s4
        have hlg := kg3.len
        simp only [List.length_cons] at hzg
        refine ⟨A.gl, _, _, rfl, rfl, s4 _ _ hgl3, Nat.lt_of_le_of_lt (m := 5000) (by rw [List.length_reverse]; omega) (by decide), ?_⟩
        have hT5 := hT4.setGot (G := .t (mkOp false c1 c0) :: G) (gs' := .ref t3 :: gs) ⟨⟨t3, rfl, two_at (l := false) upd_same (hd1.tk (tk_same s4)) (hd0.tk (tk_same s4))⟩, kg3.imp fun _ _ z => GtV.tk (tk_same s4) z⟩
        rw [List.reverse_cons] at hT5
        exact q _ _ _ _ .op hT5
      | [], _ => cases e2
      | .p _ :: _, _ => cases e2
      | .t _ :: [], _ => cases e2
      | .t _ :: .p _ :: _, _ => cases e2
      | .t _ :: .t _ :: _, [] => exact hg2.elim
      | .t _ :: .t _ :: _, [_] => exact hg2.2.elim
    | true =>
      have h1 : H b = some (.tup [.str "less"]) := hJ
      obtain ⟨g', e2, _⟩ := ho
      match G, gs with
      | .t c0 :: .t c1 :: G, v0 :: v1 :: gs =>
        obtain ⟨⟨b0, rfl, hb0⟩, ⟨b1, rfl, hb1⟩, hg3⟩ := hg2
        refine ⟨_, rfl, b, _, _, _, rfl, rfl, SqT.of h1, at0, ?_⟩
        refine ⟨_, rfl, rfl, _, rfl, itF rfl ⟨_, rfl, rfl, _, rfl, itF rfl ⟨_, rfl, sz (by show 3 ≤ 100000; decide), fun t0 ht0 => ⟨t0, _, rfl, .inr (SqT.of upd_same), rfl, rfl, _, rfl, itF rfl ⟨_, rfl, rfl, _, rfl, itF rfl ⟨_, rfl, rfl, _, rfl, itF rfl ⟨_, rfl, rfl, _, rfl, itF rfl ⟨_, rfl, rfl, _, rfl, itF rfl ?_⟩⟩⟩⟩⟩⟩⟩⟩
        have s0 := same_new ht0 (.tup [.str "let", .str "tell", .str "post"])
        have hT0 := hT.mono s0
        have hg0 := s0 _ _ hg1
        have h10 := s0 _ _ h1
        generalize hHa : upd H t0 (.tup [.str "let", .str "tell", .str "post"]) = Ha at s0 hT0 hg0 h10
        have kg0 := hg3.imp fun _ _ z => GtV.tk (tk_same s0) z
        have hc0 := At.tk (tk_same s0) hb0
        have hc1 := At.tk (tk_same s0) hb1
        refine ⟨_, rfl, A.p, CT, _, _, _, rfl, hT0.ob, X.clT, X.tGot, l_got _ _ _ _, .inl ⟨rfl, _, SqL.of hg0⟩, ?_⟩
        have hd := drop_rev (gs1 := [V.ref b1, V.ref b0]) (gs2 := gs)
        have e9 : (V.ref b0 :: V.ref b1 :: gs : List V) = [V.ref b1, V.ref b0].reverse ++ gs := rfl
        rw [e9] at hg0
        refine ⟨_, rfl, _, rfl, A.p, CT, _, _, _, rfl, hT0.ob, X.clT, X.tGot, l_got _ _ _ _, A.gl, _, 2, rfl, hg0, by simp, fun H2 v s2 hv => ?_⟩
        have hv' : H2 v = some (.tup [V.ref b1, V.ref b0]) := hv.trans (congrArg (fun z => some (HO.tup z)) hd.1)
        have hd2 : ([V.ref b1, V.ref b0].reverse ++ gs).reverse.take (([V.ref b1, V.ref b0].reverse ++ gs).reverse.length - 2) = gs.reverse := hd.2
        rw [hd2]
        have hT2 := hT0.mono s2
        have kg2 : All2 (GtV H2) G gs := kg0.imp fun _ _ z => GtV.tk (tk_same s2) z
        have hT3 : TuAt CN CT H0 (upd H2 A.gl (.lst gs.reverse)) A tk ⟨J, R, G, m⟩ ras := hT2.setGot kg2
        have tk3 : TK H2 (upd H2 A.gl (.lst gs.reverse)) := tk_put (s2 _ _ hg0)
        have hv3 := tk3 _ _ hv'
        have kg3 := kg2.imp fun _ _ z => GtV.tk tk3 z
        have tk03 := (tk_same s2).trans tk3
        have hd0 := At.tk tk03 hc0
        have hd1 := At.tk tk03 hc1
        have hgl3 : upd H2 A.gl (.lst gs.reverse) A.gl = some (.lst gs.reverse) := upd_same
        generalize upd H2 A.gl (.lst gs.reverse) = H3 at hT3 hv3 kg3 tk3 tk03 hgl3 hd0 hd1
        refine ⟨v, _, rfl, .inl (SqT.of hv3), sz (by show 3 ≤ 100000; decide), fun t3 ht3 => ?_⟩
        have s4 := same_new ht3 (.tup (.str "less" :: [V.ref b1, V.ref b0]))
        have hT4 := hT3.mono s4
        have hlg := kg3.len
        simp only [List.length_cons] at hzg
        refine ⟨A.gl, _, _, rfl, rfl, s4 _ _ hgl3, Nat.lt_of_le_of_lt (m := 5000) (by rw [List.length_reverse]; omega) (by decide), ?_⟩
        have hT5 := hT4.setGot (G := .t (mkOp true c1 c0) :: G) (gs' := .ref t3 :: gs) ⟨⟨t3, rfl, two_at (l := true) upd_same (hd1.tk (tk_same s4)) (hd0.tk (tk_same s4))⟩, kg3.imp fun _ _ z => GtV.tk (tk_same s4) z⟩
        rw [List.reverse_cons] at hT5
        exact q _ _ _ _ .op hT5
      | [], _ => cases e2
      | .p _ :: _, _ => cases e2
      | .t _ :: [], _ => cases e2
      | .t _ :: .p _ :: _, _ => cases e2
      | .t _ :: .t _ :: _, [] => exact hg2.elim
      | .t _ :: .t _ :: _, [_] => exact hg2.2.elim
end
end KB

namespace KB
open PySem L2 HT

/-! ### go -/
def SzB (n : Nat) (R : List (List Ld)) (G : List Gt) : Prop := R.length ≤ n ∧ G.length ≤ n ∧ ∀ r ∈ R, r.length ≤ n
theorem FinJ.sz {j : Jb} {R R1 : List (List Ld)} {G G1 : List Gt} {n : Nat} (f : FinJ j R G R1 G1) (h : SzB n R G) : SzB (n + 1) R1 G1 := by
  obtain ⟨h1, h2, h3⟩ := h
  cases f with
  | row => exact ⟨by rw [List.length_cons]; omega, by omega, fun r hr => by
      rcases List.mem_cons.mp hr with z | z
      · subst z; exact Nat.zero_le _
      · exact Nat.le_succ_of_le (h3 r z)⟩
  | close =>
    rw [List.length_cons] at h1 h2
    exact ⟨by omega, by rw [List.length_cons]; omega, fun r hr => Nat.le_succ_of_le (h3 r (List.mem_cons_of_mem _ hr))⟩
  | lett =>
    rw [List.length_cons] at h1 h2
    refine ⟨by rw [List.length_cons]; omega, by omega, fun r hr => ?_⟩
    rcases List.mem_cons.mp hr with z | z
    · subst z
      have := h3 _ List.mem_cons_self
      rw [List.length_append, List.length_singleton]
      omega
    · exact Nat.le_succ_of_le (h3 r (List.mem_cons_of_mem _ z))
  | tell =>
    rw [List.length_cons] at h1 h2
    refine ⟨by rw [List.length_cons]; omega, by omega, fun r hr => ?_⟩
    rcases List.mem_cons.mp hr with z | z
    · subst z
      have := h3 _ List.mem_cons_self
      rw [List.length_append, List.length_singleton]
      omega
    · exact Nat.le_succ_of_le (h3 r (List.mem_cons_of_mem _ z))
  | post =>
    rw [List.length_cons] at h1 h2
    refine ⟨by rw [List.length_cons]; omega, by omega, fun r hr => ?_⟩
    rcases List.mem_cons.mp hr with z | z
    · subst z
      have := h3 _ List.mem_cons_self
      rw [List.length_append, List.length_singleton]
      omega
    · exact Nat.le_succ_of_le (h3 r (List.mem_cons_of_mem _ z))
  | known => exact ⟨by omega, by rw [List.length_cons]; omega, fun r hr => Nat.le_succ_of_le (h3 r hr)⟩
  | ask =>
    rw [List.length_append] at h2
    exact ⟨by omega, by rw [List.length_cons]; omega, fun r hr => Nat.le_succ_of_le (h3 r hr)⟩
  | give => exact ⟨by omega, by simp only [List.length_cons] at h2 ⊢; omega, fun r hr => Nat.le_succ_of_le (h3 r hr)⟩
  | iff => exact ⟨by omega, by simp only [List.length_cons] at h2 ⊢; omega, fun r hr => Nat.le_succ_of_le (h3 r hr)⟩
  | op => exact ⟨by omega, by simp only [List.length_cons] at h2 ⊢; omega, fun r hr => Nat.le_succ_of_le (h3 r hr)⟩
theorem kG_ts (ts : List Tm) : (ts.map Gt.t).reverse.map kG = List.replicate ts.length false := by
  rw [List.map_reverse, List.map_map]
  have : (kG ∘ Gt.t) = fun _ => false := rfl
  rw [this, List.map_const', List.reverse_replicate]
theorem FinJ.ok {j : Jb} {J : List Jb} {R R1 : List (List Ld)} {G G1 : List Gt} (f : FinJ j R G R1 G1) (o : okJ (j :: J) R.length (G.map kG)) : okJ J R1.length (G1.map kG) := by
  cases f with
  | row => exact o
  | close =>
    obtain ⟨r', g', e1, e2, o⟩ := o
    rw [List.length_cons] at e1
    cases Nat.succ.inj e1
    cases (List.cons.inj e2).2
    exact o
  | lett =>
    obtain ⟨g', _, e2, o⟩ := o
    cases (List.cons.inj e2).2
    exact o
  | tell =>
    obtain ⟨g', _, e2, o⟩ := o
    cases (List.cons.inj e2).2
    exact o
  | post =>
    obtain ⟨g', _, e2, o⟩ := o
    cases (List.cons.inj e2).2
    exact o
  | known => exact o
  | ask =>
    obtain ⟨g', e2, o⟩ := o
    rw [List.map_append, kG_ts] at e2
    cases List.append_cancel_left e2
    exact o
  | give =>
    obtain ⟨g', e2, o⟩ := o
    cases (List.cons.inj e2).2
    exact o
  | iff =>
    obtain ⟨g', e2, o⟩ := o
    cases (List.cons.inj (List.cons.inj (List.cons.inj e2).2).2).2
    exact o
  | op =>
    obtain ⟨g', e2, o⟩ := o
    cases (List.cons.inj (List.cons.inj e2).2).2
    exact o
def jn : Jb → Str
  | .row => "row"
  | .done _ _ => "done"
  | .put _ _ => "put"
  | .simple _ => "simple"
  | .known _ => "known"
  | .close => "close"
  | .lett _ => "let"
  | .tell _ => "tell"
  | .post _ _ => "post"
  | .ask _ _ _ => "ask"
  | .give _ => "give"
  | .iff => "if"
  | .op l => if l then "less" else "plus"
theorem JbA.head {H : Hp} {q : Addr} {j : Jb} (h : JbA H q j) : ∃ r, H q = some (.tup (.str (jn j) :: r)) := by
  cases j with
  | done t j => obtain ⟨b, h1, h2⟩ := h; exact ⟨_, h1⟩
  | put t x => obtain ⟨b, h1, h2⟩ := h; exact ⟨_, h1⟩
  | simple t => obtain ⟨b, h1, h2⟩ := h; exact ⟨_, h1⟩
  | known t => obtain ⟨b, h1, h2⟩ := h; exact ⟨_, h1⟩
  | _ => exact ⟨_, h⟩
theorem jn_mk (j : Jb) : inV (.str (jn j)) [.str "done", .str "put", .str "simple"] = isMk j := by
  cases j with
  | op l => cases l <;> rfl
  | _ => rfl
theorem JbA.okm {H : Hp} {q : Addr} {j : Jb} (h : JbA H q j) (hm : isMk j = true) (w : Str) : wJs (mkJ j w) < wJ j ∧ ∀ {J : List Jb} {r : Nat} {g : List Bool}, okJ (j :: J) r g → okJ (mkJ j w ++ J) r g := by
  cases j with
  | done t j => obtain ⟨b, h1, h2⟩ := h; exact ⟨w_done t j h2.ar, fun o => ok_done h2.ar o⟩
  | put t x => obtain ⟨b, h1, h2⟩ := h; exact ⟨w_put t x w h2.ar, fun o => ok_put h2.ar o⟩
  | simple t => obtain ⟨b, h1, h2⟩ := h; exact ⟨w_simple t w h2.ar, fun o => ok_simp h2.ar o⟩
  | _ => cases hm
theorem run_mk {tk : List Str} {j : Jb} {w : Str} {J : List Jb} {R G m m' R2 G2 m2} (hm : isMk j = true) (h1 : wordJ j = true → NwR tk m w m') (h2 : wordJ j = false → m' = m) (h : Run tk (mkJ j w ++ J) R G m' R2 G2 m2) : Run tk (j :: J) R G m R2 G2 m2 := by
  cases j with
  | done t j => cases h2 rfl; exact .done h
  | put t x => exact .put h1 h2 h
  | simple t => exact .simple h1 h2 h
  | _ => cases hm
theorem nw_le {tk : List Str} {m : Nat} {w : Str} {m' : Nat} {b : Bool} (h1 : b = true → NwR tk m w m') (h2 : b = false → m' = m) (ht : tk.length ≤ 200) : m' ≤ m + 201 := by
  cases b with
  | true =>
    obtain ⟨k, k1, k2, _, _, k3, _⟩ := h1 rfl
    omega
  | false =>
    have := h2 rfl
    omega
section
variable {P : Program} {w : World} {K : PySem.W.Frag} {mg : Str → Option Value} {base : Heap} {CN CT : Addr}
def spGo (CN CT : Addr) : Sp := fun vs H Q _ => ∃ (H0 : Hp) (A : TuA) (tk : List Str) (m0 : Nat) (l : Addr) (J : List Jb) (us : List V), vs = [.ref A.p, .ref l] ∧ TuAt CN CT H0 H A tk ⟨[], [], [], m0⟩ [] ∧ H l = some (.lst us) ∧ All2 (JbV H) J us ∧ okJ J 0 [] ∧
  wJs J ≤ 2000 ∧ tk.length ≤ 200 ∧ m0 ≤ 1000 ∧ ∀ H' q m', Run tk J [] [] m0 [] [.p q] m' → TuAt CN CT H0 H' A tk ⟨[], [], [.p q], m'⟩ [] → Q .non H'
abbrev sGo : Stmt := inClass (top 18) 1
theorem scGo : FnScope ["self", "jobs", "job"] ["self", "jobs"] (defScope sGo) := ⟨rfl, rfl, rfl, by decide +kernel, rfl, by decide +kernel, by decide +kernel⟩
def GoW (CN CT : Addr) (H0 : Hp) (A : TuA) (tk : List Str) (J : List Jb) (m0 : Nat) (l : Addr) (μ : Nat) (σ : St) (H' : Hp) : Prop := ∃ (c : Cg) (ras : List Addr) (o : Option V) (n : Nat), σ = [some (.ref A.p), some (.ref l), o] ∧ TuAt CN CT H0 H' A tk c ras ∧ μ = wJs c.jobs ∧ okJ c.jobs c.rows.length (c.got.map kG) ∧
  SzB n c.rows c.got ∧ n + wJs c.jobs ≤ 2000 ∧ c.m + 300 * wJs c.jobs ≤ 700000 ∧ ∀ R2 G2 m2, Run tk c.jobs c.rows c.got c.m R2 G2 m2 → Run tk J [] [] m0 R2 G2 m2
theorem ok_go (X : TxN K mg CN CT) {f g1 g2 : Addr} {fd d1 d2 : FuncData} (F : Fun K "go" "Turning.go" sGo f fd) (G1 : FnOk P w K mg base CX0 4 g1 d1 ["self", "job"] (spJof CN CT)) (b1 : Binds K d1 ["self", "job"] []) (m1 : Meth K CT "jobs_of" g1)
    (G2 : FnOk P w K mg base CX0 2 g2 d2 ["self", "job"] (spFin CN CT)) (b2 : Binds K d2 ["self", "job"] []) (m2 : Meth K CT "finish" g2) : FnOk P w K mg base CX0 5 f fd ["self", "jobs"] (spGo CN CT) := by
  refine F.ok scGo (fun vs H Q E h => ?_) (fun cdv A outer s H vs Q E hr h => ?_)
  · obtain ⟨H0, A, tk, m0, l, J, us, rfl, _⟩ := h
    rfl
  obtain ⟨H0, A, tk, m0, l, J, us, rfl, hT, hl, kJ, hok, hw, htk, hm0, q⟩ := h
  refine ⟨_, (pss_cons (ps_expr (pe_bm PySem.F.plainAttrs_list PySem.F.slot_list_extend PySem.F.type_list_extend mt_extend (pe_fld (pv 0) rfl) (pa_cons (pe_revL (pv 1)) pa_nil)))
    (pss_one (ps_while PassesOwn.never (pt_truth (pe_fld (pv 0) rfl) (by intro _; rfl)) (pss_cons (ps_set (i := 2) scGo.nd rfl (Or.inl rfl) (pe_bm0 PySem.F.plainAttrs_list PySem.F.slot_list_pop PySem.F.type_list_pop mt_pop (pe_fld (pv 0) rfl)))
    (pss_one (ps_if (pt_cmpR op_in_seq (pe_ix ix_tup (pv 2) pe_int (fun _ _ => rfl)) (pe_tup (pa_cons pe_str (pa_cons pe_str (pa_cons pe_str pa_nil)))) rfl) (pss_one (ps_expr (pe_bm PySem.F.plainAttrs_list PySem.F.slot_list_extend PySem.F.type_list_extend mt_extend (pe_fld (pv 0) rfl) (pa_cons (pe_revL (pe_meth (pv 0) X.clT m1 G1 (hr.mono (by omega)) b1 .nil pass0 (pa_cons (pv 2) pa_nil))) pa_nil)))) (pss_one (ps_expr (pe_meth (pv 0) X.clT m2 G2 (hr.mono (by omega)) b2 .nil pass0 (pa_cons (pv 2) pa_nil)))))))))), ?_⟩
  obtain ⟨js, j1, j2⟩ := hT.js
  have ej : js = [] := by
    cases js with
    | nil => rfl
    | cons _ _ => exact j2.elim
  subst ej
  have hlu := kJ.len
  have hlw := len_wJs J
  refine ⟨_, rfl, A.p, CT, _, _, _, rfl, hT.ob, X.clT, X.tJobs, l_jobs _ _ _ _, .inl ⟨rfl, _, SqL.of j1⟩, ?_⟩
  refine ⟨_, rfl, l, us, rfl, SqL.of hl, fun p hp => ?_⟩
  have s1 := same_new hp (.lst us.reverse)
  refine ⟨A.jl, p, _, us.reverse, rfl, rfl, s1 _ _ j1, upd_same, sz (by rw [List.length_reverse, List.length_reverse]; show 0 + us.length ≤ 100000; omega), ?_⟩
  have hT1 := (hT.mono s1).setJobs (J := J) (js' := us) (kJ.imp fun _ _ z => JbV.tk (tk_same s1) z)
  refine ⟨GoW CN CT H0 A tk J m0 l, ⟨_, _, [], none, 0, rfl, hT1, rfl, hok, ⟨Nat.le_refl _, Nat.le_refl _, fun r hr => by cases hr⟩, by show 0 + wJs J ≤ 2000; omega, by show m0 + 300 * wJs J ≤ 700000; omega, fun _ _ _ z => z⟩, ?_⟩
  clear s1 hT1 hp j1 j2 hT hl kJ hok hlu hlw
  rintro μ σ H1 ⟨⟨J1, R, G, m⟩, ras, o, n, rfl, hT, rfl, hok, hz, hn, hm, hrun⟩
  dsimp only at hok hz hn hm hrun
  obtain ⟨js, j1, j2⟩ := hT.js
  refine ⟨_, rfl, A.p, CT, _, _, _, rfl, hT.ob, X.clT, X.tJobs, l_jobs _ _ _ _, _, .inl ⟨_, SqL.of j1, rfl⟩, ?_⟩
  cases js with
  | nil =>
    cases J1 with
    | cons _ _ => exact j2.elim
    | nil =>
      refine itF rfl ?_
      obtain ⟨e1, e2⟩ := hok
      cases R with
      | cons _ _ => cases e1
      | nil =>
        match G, e2 with
        | [.p q1], _ =>
          have er := hT.rs
          cases ras with
          | cons _ _ => exact er.elim
          | nil => exact q H1 q1 m (hrun _ _ _ .nil) hT
  | cons v js =>
    cases J1 with
    | nil => exact j2.elim
    | cons j J1 =>
      obtain ⟨⟨b, rfl, hb⟩, k2⟩ := j2
      refine itT (by simp) ⟨fun σ' H' => ∃ m', m' < wJs (j :: J1) ∧ GoW CN CT H0 A tk J m0 l m' σ' H', fun _ _ z => z, ?_⟩
      refine ⟨_, rfl, A.p, CT, _, _, _, rfl, hT.ob, X.clT, X.tJobs, l_jobs _ _ _ _, .inl ⟨rfl, _, SqL.of j1⟩, A.jl, _, .ref b, rfl, rfl, j1, by simp, ?_⟩
      rw [popE]
      have hT2 := hT.setJobs (J := J1) (js' := js) k2
      have tk2 : TK H1 (upd H1 A.jl (.lst js.reverse)) := tk_put j1
      have hb2 := hb.tk tk2
      dsimp only at hT2
      generalize upd H1 A.jl (.lst js.reverse) = H2 at hT2 tk2 hb2
      obtain ⟨r0, hd⟩ := hb2.head
      refine ⟨_, rfl, b, _, _, _, rfl, rfl, SqT.of hd, at0, sz (by show 3 ≤ 100000; decide), fun t0 ht0 => ?_⟩
      refine ⟨t0, _, rfl, .inr (SqT.of upd_same), rfl, rfl, _, rfl, ?_⟩
      have s0 := same_new ht0 (.tup [.str "done", .str "put", .str "simple"])
      have hT3 := hT2.mono s0
      have hb3 := hb2.tk (tk_same s0)
      generalize upd H2 t0 (.tup [.str "done", .str "put", .str "simple"]) = H3 at s0 hT3 hb3
      rw [wJs_cons] at hn hm
      have hwp := wJ_pos j
      show if inV (.str (jn j)) [.str "done", .str "put", .str "simple"] = true then _ else _
      rw [jn_mk]
      by_cases cm : isMk j = true
      · refine itT cm ?_
        obtain ⟨js3, j3, k3⟩ := hT3.js
        refine ⟨_, rfl, A.p, CT, _, _, _, rfl, hT3.ob, X.clT, X.tJobs, l_jobs _ _ _ _, .inl ⟨rfl, _, SqL.of j3⟩, ?_⟩
        refine ⟨_, rfl, A.p, _, _, rfl, hT3.ob, by rfl, _, rfl, H0, A, tk, ⟨J1, R, G, m⟩, ras, b, j, rfl, hT3, hb3, cm, ?_, fun r H4 us w m' g1 g2 hT4 g4 g5 => ?_⟩
        · refine Nat.lt_of_le_of_lt (m := 1000000) ?_ (by decide)
          show m + tk.length + 2 ≤ 1000000
          omega
        refine ⟨r, us, rfl, SqL.of g4, fun p hp => ?_⟩
        have s5 := same_new hp (.lst us.reverse)
        obtain ⟨js4, j4, k4⟩ := hT4.js
        obtain ⟨h7, h8⟩ := hb3.okm cm w
        have lu := g5.len
        have lw := len_wJs (mkJ j w)
        have l4 := k4.len
        have lw4 := len_wJs J1
        dsimp only at l4
        refine ⟨A.jl, p, _, us.reverse, rfl, rfl, s5 _ _ j4, upd_same, sz (by rw [List.length_reverse, List.length_reverse]; omega), ?_⟩
        rw [← List.reverse_append]
        have k5 : All2 (JbV (upd H4 p (.lst us.reverse))) (mkJ j w ++ J1) (us ++ js4) := (g5.imp fun _ _ z => JbV.tk (tk_same s5) z).app (k4.imp fun _ _ z => JbV.tk (tk_same s5) z)
        have hT5 := (hT4.mono s5).setJobs k5
        have hmm := nw_le g1 g2 htk
        dsimp only at hmm
        refine ⟨wJs (mkJ j w ++ J1), by rw [wJs_app, wJs_cons]; omega, _, ras, _, n, rfl, hT5, rfl, h8 hok, hz, by rw [wJs_app]; omega, ?_, fun R2 G2 m2 z => hrun _ _ _ (run_mk cm g1 g2 z)⟩
        show m' + 300 * wJs (mkJ j w ++ J1) ≤ 700000
        rw [wJs_app]
        omega
      · refine itF (Bool.eq_false_iff.mpr cm) ?_
        refine ⟨_, rfl, A.p, _, _, rfl, hT3.ob, by rfl, _, rfl, H0, A, tk, ⟨J1, R, G, m⟩, ras, b, j, rfl, hT3, hb3, Bool.eq_false_iff.mpr cm, hok, ⟨Nat.le_trans hz.1 (by omega), Nat.le_trans hz.2.1 (by omega), fun r hr => Nat.le_trans (hz.2.2 r hr) (by omega)⟩, fun H4 R1 G1 ras' f hT4 => ?_⟩
        dsimp only at f hT4
        exact ⟨wJs J1, by rw [wJs_cons]; omega, _, ras', _, n + 1, rfl, hT4, rfl, f.ok hok, f.sz hz, by show n + 1 + wJs J1 ≤ 2000; omega, by show m + 300 * wJs J1 ≤ 700000; omega, fun R2 G2 m2 z => hrun _ _ _ (.fin f z)⟩
end
end KB

namespace KB
open PySem L2 HT

/-! ### terms as trees -/
def plT : Tm → List (List Int × Tm)
  | .mk h n k => ([], .mk h n k) :: (List.ofFn fun i : _root_.Fin n => (plT (k i)).map (fun e => ((i.val : Int) :: e.1, e.2))).flatten
theorem plT_fn : ∀ {n : Nat} {k : _root_.Fin n → Tm} {j : Nat}, (List.ofFn fun i : _root_.Fin n => (plT (k i)).map (fun e => (((j + i.val : Nat) : Int) :: e.1, e.2))).flatten = plL plT j (List.ofFn k)
  | 0, _, _ => rfl
  | n + 1, k, j => by
    rw [List.ofFn_succ, List.ofFn_succ, List.flatten_cons]
    show _ = (plT (k 0)).map (fun e => ((j : Int) :: e.1, e.2)) ++ plL plT (j + 1) _
    rw [← plT_fn (k := fun i => k i.succ) (j := j + 1)]
    congr 3
    · funext i
      have e : j + (i.succ).val = j + 1 + i.val := by
        rw [_root_.Fin.val_succ]
        omega
      rw [e]
theorem plT_eq (t : Tm) : plT t = ([], t) :: plL plT 0 (kidsT t) := by
  cases t with
  | mk h n k =>
    show _ = ([], Tm.mk h n k) :: plL plT 0 (List.ofFn k)
    rw [← plT_fn]
    show _ :: _ = _
    congr 4
    funext i
    rw [Nat.zero_add]
def TrT : Tre Tm where
  kids := kidsT
  sz := cnt
  pl := plT
  A H t a := At H t a
  tk e h := h.tk e
  szk n := cnt_kids n
  plk n := plT_eq n
def letW (t : Tm) : Option Str := match hdT t with | .lett x => some x | _ => none
def wordsIn (xs : List Str) (t : Tm) : List Str := xs ++ (TrT.pre t).filterMap letW
theorem wordsIn_len (xs : List Str) (t : Tm) : (wordsIn xs t).length ≤ xs.length + cnt t := by
  unfold wordsIn
  rw [List.length_append]
  have h1 := List.length_filterMap_le letW (TrT.pre t)
  have h2 : (TrT.pre t).length = cnt t := by
    show (List.map _ (TrT.pl t)).length = _
    rw [List.length_map]
    exact TrT.pl_len _ t (Nat.le_refl _)
  omega
section
variable {P : Program} {w : World} {K : PySem.W.Frag} {mg : Str → Option Value} {base : Heap} {CN CT : Addr}
theorem parts_kids {f : Addr} {fd : FuncData} (F : FnOk P w K mg base CX0 1 f fd ["term"] spParts) : FnOk P w K mg base CX0 1 f fd ["term"] (spKids TrT) := by
  refine F.imp fun vs H Q E h => ?_
  obtain ⟨n, a, rfl, hA, q⟩ := h
  obtain ⟨xs, l, k⟩ := At.kids hA
  exact ⟨a, hdT n, xs, rfl, l, fun p H' s hp => q p H' xs s hp (k.imp fun _ _ z => RefV.tk (tk_same s) z)⟩
def spWordsIn : Sp := fun vs H Q _ => ∃ (np a : Addr) (xs : List Str) (t : Tm), vs = [.ref np, .ref a] ∧ H np = some (.tup (xs.map V.str)) ∧ At H t a ∧ cnt t ≤ 1000 ∧ xs.length ≤ 100 ∧ ∀ H' p, H p = none → Same H H' → H' p = some (.lst ((wordsIn xs t).map V.str)) → Q (.ref p) H'
abbrev swords_in : Stmt := top 5
theorem scwords_in : FnScope ["names", "body", "term"] ["names", "body"] (defScope swords_in) := ⟨rfl, rfl, rfl, by decide +kernel, rfl, by decide +kernel, by decide +kernel⟩
theorem ok_wordsIn {f f1 f2 : Addr} {fd d1 d2 : FuncData} (F : Fun K "words_in" "words_in" swords_in f fd) (Gmet : FnOk P w K mg base CX0 2 f1 d1 ["body", "parts"] (spMet TrT f2)) (Rmet : Ref K mg "met" f1 d1 ["body", "parts"]) (Rparts_of : Ref K mg "parts_of" f2 d2 ["term"]) : FnOk P w K mg base CX0 3 f fd ["names", "body"] spWordsIn := by
  refine F.ok scwords_in (fun vs H Q E h => ?_) (fun cdv A outer s H vs Q E hr h => ?_)
  · obtain ⟨np, a, xs, t, rfl, _⟩ := h
    rfl
  obtain ⟨np, a, xs, t, rfl, hn, hA, hc, hx, q⟩ := h
  refine ⟨_, (pss_one (ps_ret (pe_lst (StX.pa_star (pv 0) (StX.pa_star (pe_lc (own := [("term", 2)]) (g := gName 2) (tt := tTest (tOp rEq (tOp (rIxT K) (tVar 2) (tC (.int 0))) (tC (.str "let")))) (te := tOp (rIxT K) (tVar 2) (tC (.int 1))) (by rfl) scwords_in.nd (pi_list (pe_call Gmet (hr.mono (by omega)) rfl Rmet.m Rmet.k Rmet.b .nil pass0 (pa_cons (pv 1) (pa_cons (pe_glob (v := .ref f2) rfl Rparts_of.m rfl) pa_nil)))) (blkOk_by (own := [("term", 2)]) (N := ["names", "body", "term"]) (sc := defScope swords_in) (by decide +kernel)) (fun _ _ _ _ _ => (pg_name (i := 2) scwords_in.nd rfl (Or.inl rfl))) (fun _ _ _ _ _ => (pts_one (pt_cmpR op_eq (pe_ix ix_tup (pv 2) pe_int (fun _ _ => rfl)) pe_str (nomark _)))) (fun _ _ _ _ _ => (pe_ix ix_tup (pv 2) pe_int (fun _ _ => rfl)))) pa_nil))))), ?_⟩
  refine ⟨_, rfl, np, _, rfl, .inl (SqT.of hn), _, rfl, t, a, rfl, hA, hc, fun pm H1 its hpm s1 h1 k1 => ?_⟩
  have hlp : its.length = cnt t := by
    rw [k1.len]
    show (List.map _ (TrT.pl t)).length = _
    rw [List.length_map]
    exact TrT.pl_len _ t (Nat.le_refl _)
  refine ⟨pm, rfl, ⟨_, SqL.of h1⟩, fun D hD => lc_list (K := K) (a := pm) (xs := its) (fun i H' => Same H1 H' ∧ H' D = some (.lst ((((TrT.pre t).take i).filterMap letW).map V.str))) ⟨same_new hD _, upd_same⟩ ?_ ?_ ?_⟩
  · rintro i H' _ ⟨s2, _⟩
    exact SqL.of (s2 _ _ h1)
  · rintro i x H2 hx2 ⟨s2, h2⟩
    obtain ⟨u, hu, b, rfl, hb⟩ := k1.get hx2
    obtain ⟨hj, hj2⟩ := List.getElem?_eq_some_iff.mp hu
    have hb2 := At.tk (tk_same s2) hb
    obtain ⟨ys, l, _⟩ := hb2.kids
    obtain ⟨r0, hd⟩ := l.head
    have hle := List.length_filterMap_le letW ((TrT.pre t).take i)
    rw [List.length_take] at hle
    have hpl : (TrT.pre t).length = cnt t := by rw [← k1.len]; exact hlp
    refine ⟨rfl, ?_⟩
    refine ⟨_, rfl, b, _, _, _, rfl, rfl, SqT.of hd, at0, rfl, _, rfl, ?_⟩
    rw [List.take_succ_eq_append_getElem hj, hj2, List.filterMap_append, List.map_append]
    refine ite2 (fun c => ?_) (fun c => ?_)
    · obtain ⟨y, hh⟩ := hs_let (V.str.inj (of_decide_eq_true c))
      rw [hh] at l
      refine ⟨_, rfl, b, _, _, _, rfl, rfl, SqT.of l.2, at1, ?_⟩
      refine ⟨_, h2, Nat.lt_of_le_of_lt (m := 1000) (by rw [List.length_map]; omega) (by decide), same_mut s2 hD, ?_⟩
      have e : [u].filterMap letW = [y] := by
        simp [letW, hh]
      rw [e]
      exact upd_same
    · have e : [u].filterMap letW = [] := by
        have : letW u = none := by
          unfold letW
          cases hh : hdT u with
          | lett x => rw [hh] at c; exact absurd (decide_eq_true rfl) c
          | _ => rfl
        simp [this]
      rw [e, List.map_nil, List.append_nil]
      exact ⟨s2, h2⟩
  · rintro H2 ⟨s2, h2⟩
    rw [show its.length = (TrT.pre t).length from k1.len, List.take_length] at h2
    have hwl := wordsIn_len xs t
    have e : (wordsIn xs t).map V.str = xs.map V.str ++ ((TrT.pre t).filterMap letW).map V.str := by
      unfold wordsIn
      rw [List.map_append]
    refine ⟨D, _, rfl, .inr (SqL.of h2), ?_⟩
    show (xs.map V.str ++ (((TrT.pre t).filterMap letW).map V.str ++ [])).length ≤ sizeLine ∧ _
    rw [List.append_nil, ← e]
    refine ⟨sz (by rw [List.length_map]; omega), fun p hp => ?_⟩
    have s3 := same_new hp (.lst ((wordsIn xs t).map V.str))
    exact q _ p ((s1.trans s2).free hp) ((s1.trans s2).trans s3) upd_same
end
end KB

namespace KB
open PySem L2 HT

section
variable {P : Program} {w : World} {K : PySem.W.Frag} {mg : Str → Option Value} {base : Heap} {CN CT : Addr}
/-! ### a new turning -/
def spT0 (CT : Addr) : Sp := fun vs H Q _ => ∃ (p dx nw : Addr), vs = [.ref p, .ref nw] ∧ H p = some (.ins CT dx []) ∧
  ∀ H' jl rl gl, (∀ b o, b ≠ p → H b = some o → H' b = some o) → H jl = none → H rl = none → H gl = none → jl ≠ rl → jl ≠ gl → rl ≠ gl → H' p = some (.ins CT dx (fsT (.ref nw) (.ref jl) (.ref rl) (.ref gl))) → H' jl = some (.lst []) → H' rl = some (.lst []) → H' gl = some (.lst []) → Q .non H'
abbrev sT0 : Stmt := inClass (top 18) 0
theorem scT0 : FnScope ["self", "new_words"] ["self", "new_words"] (defScope sT0) := ⟨rfl, rfl, rfl, by decide +kernel, rfl, by decide +kernel, by decide +kernel⟩
theorem ok_t0 (X : TxN K mg CN CT) {f : Addr} {fd : FuncData} (F : Fun K "__init__" "Turning.__init__" sT0 f fd) : FnOk P w K mg base CX0 1 f fd ["self", "new_words"] (spT0 CT) := by
  refine F.ok scT0 (fun vs H Q E h => ?_) (fun cdv A outer s H vs Q E hr h => ?_)
  · obtain ⟨p, dx, nw, rfl, _⟩ := h
    rfl
  obtain ⟨p, dx, nw, rfl, hp, q⟩ := h
  refine ⟨_, (pss_cons (ps_fld (pv 0) (pv 1) rfl)
    (pss_cons (ps_fld (pv 0) (pe_lst pa_nil) rfl)
    (pss_cons (ps_fld (pv 0) (pe_lst pa_nil) rfl)
    (pss_one (ps_fld (pv 0) (pe_lst pa_nil) rfl))))), ?_⟩
  refine ⟨_, rfl, _, rfl, p, CT, dx, _, rfl, hp, X.clT, X.tNew, (by show 0 < 1000; decide), ?_⟩
  have a1 : upd H p (.ins CT dx [("new_words", .ref nw)]) p = some (.ins CT dx [("new_words", .ref nw)]) := upd_same
  have b1 : ∀ b o, b ≠ p → H b = some o → upd H p (.ins CT dx [("new_words", .ref nw)]) b = some o := fun b o n hb => by rw [upd_ne n]; exact hb
  have f1 : ∀ {b}, upd H p (.ins CT dx [("new_words", .ref nw)]) b = none → H b = none ∧ b ≠ p := fun {b} hb => by
    by_cases e : b = p
    · subst e; rw [a1] at hb; cases hb
    · rw [upd_ne e] at hb; exact ⟨hb, e⟩
  rw [show putF "new_words" (.ref nw) [] = ([("new_words", .ref nw)] : List (Str × V)) from rfl]
  generalize upd H p (.ins CT dx [("new_words", .ref nw)]) = H1 at a1 b1 f1
  refine ⟨sz (by decide), fun jl hjl => ?_⟩
  have s2 := same_new hjl (.lst [])
  have njp := (f1 hjl).2
  refine ⟨_, rfl, p, CT, dx, _, rfl, s2 _ _ a1, X.clT, X.tJobs, (by show 1 < 1000; decide), ?_⟩
  have a2 : upd (upd H1 jl (.lst [])) p (.ins CT dx [("new_words", .ref nw), ("jobs", .ref jl)]) p = some (.ins CT dx [("new_words", .ref nw), ("jobs", .ref jl)]) := upd_same
  have j2 : upd (upd H1 jl (.lst [])) p (.ins CT dx [("new_words", .ref nw), ("jobs", .ref jl)]) jl = some (.lst []) := by rw [upd_ne njp]; exact upd_same
  have b2 : ∀ b o, b ≠ p → H1 b = some o → upd (upd H1 jl (.lst [])) p (.ins CT dx [("new_words", .ref nw), ("jobs", .ref jl)]) b = some o := fun b o n hb => by rw [upd_ne n]; exact s2 _ _ hb
  have f2 : ∀ {b}, upd (upd H1 jl (.lst [])) p (.ins CT dx [("new_words", .ref nw), ("jobs", .ref jl)]) b = none → H1 b = none ∧ b ≠ p ∧ b ≠ jl := fun {b} hb => by
    by_cases e : b = p
    · subst e; rw [a2] at hb; cases hb
    · by_cases e2 : b = jl
      · subst e2; rw [j2] at hb; cases hb
      · rw [upd_ne e, upd_ne e2] at hb; exact ⟨hb, e, e2⟩
  rw [show putF "jobs" (.ref jl) [("new_words", .ref nw)] = ([("new_words", .ref nw), ("jobs", .ref jl)] : List (Str × V)) from rfl]
  generalize upd (upd H1 jl (.lst [])) p (.ins CT dx [("new_words", .ref nw), ("jobs", .ref jl)]) = H2 at a2 j2 b2 f2
  refine ⟨sz (by decide), fun rl hrl => ?_⟩
  have s3 := same_new hrl (.lst [])
  obtain ⟨hr1, nrp, nrj⟩ := f2 hrl
  refine ⟨_, rfl, p, CT, dx, _, rfl, s3 _ _ a2, X.clT, X.tRows, (by show 2 < 1000; decide), ?_⟩
  have a3 : upd (upd H2 rl (.lst [])) p (.ins CT dx [("new_words", .ref nw), ("jobs", .ref jl), ("rows", .ref rl)]) p = some (.ins CT dx [("new_words", .ref nw), ("jobs", .ref jl), ("rows", .ref rl)]) := upd_same
  have r3 : upd (upd H2 rl (.lst [])) p (.ins CT dx [("new_words", .ref nw), ("jobs", .ref jl), ("rows", .ref rl)]) rl = some (.lst []) := by rw [upd_ne nrp]; exact upd_same
  have b3 : ∀ b o, b ≠ p → H2 b = some o → upd (upd H2 rl (.lst [])) p (.ins CT dx [("new_words", .ref nw), ("jobs", .ref jl), ("rows", .ref rl)]) b = some o := fun b o n hb => by rw [upd_ne n]; exact s3 _ _ hb
  have f3 : ∀ {b}, upd (upd H2 rl (.lst [])) p (.ins CT dx [("new_words", .ref nw), ("jobs", .ref jl), ("rows", .ref rl)]) b = none → H2 b = none ∧ b ≠ p ∧ b ≠ rl := fun {b} hb => by
    by_cases e : b = p
    · subst e; rw [a3] at hb; cases hb
    · by_cases e2 : b = rl
      · subst e2; rw [r3] at hb; cases hb
      · rw [upd_ne e, upd_ne e2] at hb; exact ⟨hb, e, e2⟩
  rw [show putF "rows" (.ref rl) [("new_words", .ref nw), ("jobs", .ref jl)] = ([("new_words", .ref nw), ("jobs", .ref jl), ("rows", .ref rl)] : List (Str × V)) from rfl]
  generalize upd (upd H2 rl (.lst [])) p (.ins CT dx [("new_words", .ref nw), ("jobs", .ref jl), ("rows", .ref rl)]) = H3 at a3 r3 b3 f3
  refine ⟨sz (by decide), fun gl hgl => ?_⟩
  have s4 := same_new hgl (.lst [])
  obtain ⟨hg2, ngp, ngr⟩ := f3 hgl
  obtain ⟨hg1, _, ngj⟩ := f2 hg2
  refine ⟨_, rfl, p, CT, dx, _, rfl, s4 _ _ a3, X.clT, X.tGot, (by show 3 < 1000; decide), ?_⟩
  refine q _ jl rl gl (fun b o n hb => ?_) (f1 hjl).1 (f1 hr1).1 (f1 hg1).1 nrj.symm ngj.symm ngr.symm upd_same ?_ ?_ ?_
  · rw [upd_ne n]
    exact s4 _ _ (b3 _ _ n (b2 _ _ n (b1 _ _ n hb)))
  · rw [upd_ne njp]
    exact s4 _ _ (b3 _ _ njp j2)
  · rw [upd_ne nrp]
    exact s4 _ _ r3
  · rw [upd_ne ngp]
    exact upd_same
/-! ### turned_body -/
def RunB (xs : List Str) (t : Tm) (p : Pt) : Prop := ∃ m', Run (wordsIn xs t) [.row, .done t "home"] [] [] 0 [] [.p p] m'
def spTBody : Sp := fun vs H Q _ => ∃ (np a : Addr) (xs : List Str) (t : Tm), vs = [.ref np, .ref a] ∧ H np = some (.tup (xs.map V.str)) ∧ At H t a ∧ cnt t ≤ 90 ∧ xs.length ≤ 10 ∧ ∀ H' b p, Same H H' → RunB xs t p → PAt H' p b → Q (.ref b) H'
abbrev sturned_body : Stmt := top 15
theorem scturned_body : FnScope ["names", "body", "turning"] ["names", "body"] (defScope sturned_body) := ⟨rfl, rfl, rfl, by decide +kernel, rfl, by decide +kernel, by decide +kernel⟩
theorem ok_tbody (X : TxN K mg CN CT) (S : TxS K mg) {f f1 fN fT fg : Addr} {fd d1 dN dT dg : FuncData} (F : Fun K "turned_body" "turned_body" sturned_body f fd) (Gwords_in : FnOk P w K mg base CX0 3 f1 d1 ["names", "body"] spWordsIn) (Rwords_in : Ref K mg "words_in" f1 d1 ["names", "body"])
    (GN : FnOk P w K mg base CX0 1 fN dN ["self", "taken"] (spNew0 CN)) (BN : Binds K dN ["self", "taken"] []) (MN : Mk K CN fN) (GT : FnOk P w K mg base CX0 1 fT dT ["self", "new_words"] (spT0 CT)) (BT : Binds K dT ["self", "new_words"] []) (MT : Mk K CT fT)
    (Ggo : FnOk P w K mg base CX0 5 fg dg ["self", "jobs"] (spGo CN CT)) (bgo : Binds K dg ["self", "jobs"] []) (mgo : Meth K CT "go" fg) : FnOk P w K mg base CX0 6 f fd ["names", "body"] spTBody := by
  refine F.ok scturned_body (fun vs H Q E h => ?_) (fun cdv A outer s H vs Q E hr h => ?_)
  · obtain ⟨np, a, xs, t, rfl, _⟩ := h
    rfl
  obtain ⟨np, a, xs, t, rfl, hn, hA, hc, hx, q⟩ := h
  obtain ⟨th, eh⟩ := S.home
  refine ⟨_, (pss_cons (ps_set (i := 2) scturned_body.nd rfl (Or.inl rfl) (pe_make MT GT (hr.mono (by omega)) rfl X.mgT BT .nil pass0 (pa_cons (pe_make MN GN (hr.mono (by omega)) rfl X.mgN BN .nil pass0 (pa_cons (pe_call Gwords_in (hr.mono (by omega)) rfl Rwords_in.m Rwords_in.k Rwords_in.b .nil pass0 (pa_cons (pv 0) (pa_cons (pv 1) pa_nil))) pa_nil)) pa_nil)))
    (pss_cons (ps_expr (pe_meth (pv 2) X.clT mgo Ggo hr bgo .nil pass0 (pa_cons (pe_lst (pa_cons (pe_tup (pa_cons pe_str pa_nil)) (pa_cons (pe_tup (pa_cons pe_str (pa_cons (pv 1) (pa_cons (pe_glob (v := .str "home") rfl eh ⟨_, rfl⟩) pa_nil)))) pa_nil))) pa_nil)))
    (pss_one (ps_ret (pe_bm0 PySem.F.plainAttrs_list PySem.F.slot_list_pop PySem.F.type_list_pop mt_pop (pe_fld (pv 2) rfl)))))), ?_⟩
  refine ⟨_, rfl, _, rfl, np, a, xs, t, rfl, hn, hA, by omega, by omega, fun H1 tl htl s1 h1 => ?_⟩
  have hwl := wordsIn_len xs t
  intro x1 dx1 hx1 hdx1 nx1
  have sA : Same H1 (upd (upd H1 dx1 (.own x1)) x1 (.ins CN dx1 [])) := fun b u z => by
    rw [upd_ne (ne_of_none z hx1), upd_ne (ne_of_none z hdx1)]
    exact z
  refine ⟨x1, dx1, tl, wordsIn xs t, rfl, upd_same, sA _ _ h1, by omega, fun H2 td k2 htd n2 => ⟨rfl, ?_⟩⟩
  have s2 : Same H1 H2 := fun b u z => k2 b u (ne_of_none z hx1) (sA b u z)
  intro x2 dx2 hx2 hdx2 nx2
  have sB : Same H2 (upd (upd H2 dx2 (.own x2)) x2 (.ins CT dx2 [])) := fun b u z => by
    rw [upd_ne (ne_of_none z hx2), upd_ne (ne_of_none z hdx2)]
    exact z
  refine ⟨x2, dx2, x1, rfl, upd_same, fun H3 jl rl gl k3 hj hr3 hg n1 n2' n3 p3 j3 r3 g3 => ⟨rfl, ?_⟩⟩
  have s3 : Same H2 H3 := fun b u z => k3 b u (ne_of_none z hx2) (sB b u z)
  have s13 := s1.trans (s2.trans s3)
  have fr : ∀ {b}, upd (upd H2 dx2 (.own x2)) x2 (.ins CT dx2 []) b = none → H b = none := fun {b} z => s1.free (s2.free (sB.free z))
  have nw3 : NWAt CN H3 x1 dx1 td (wordsIn xs t) 0 := by
    obtain ⟨kvs, q1, q2⟩ := n2.tk
    exact ⟨s3 _ _ n2.ob, kvs, s3 _ _ q1, q2⟩
  have n4 : x2 ≠ x1 := fun z => by
    rw [z, n2.ob] at hx2
    cases hx2
  have hT : TuAt CN CT H H3 ⟨x2, dx2, x1, dx1, td, jl, rl, gl⟩ (wordsIn xs t) ⟨[], [], [], 0⟩ [] :=
    ⟨p3, nw3, ⟨[], j3, trivial⟩, r3, trivial, ⟨[], g3, trivial⟩, List.nodup_nil, n1, n2', n3, n4, (fun y hy => absurd hy (List.not_mem_nil)), s13, fr hj, fr hr3, fr hg, s1.free hx1, (fun y hy => absurd hy (List.not_mem_nil))⟩
  have hA3 := hA.tk (tk_same s13)
  clear k2 k3 sA sB nw3 p3 j3 r3 g3 hx1 hdx1 hx2 hdx2 n2
  refine ⟨_, rfl, x2, _, _, rfl, hT.ob, by rfl, sz (by show 1 ≤ 100000; decide), fun t1 ht1 => ?_⟩
  have s4 := same_new ht1 (.tup [.str "row"])
  refine ⟨_, rfl, sz (by show 3 ≤ 100000; decide), fun t2 ht2 => ?_⟩
  have s5 := same_new ht2 (.tup [.str "done", .ref a, .str "home"])
  refine ⟨sz (by show 2 ≤ 100000; decide), fun l hl => ?_⟩
  have s6 := same_new hl (.lst [.ref t1, .ref t2])
  refine ⟨H, ⟨x2, dx2, x1, dx1, td, jl, rl, gl⟩, wordsIn xs t, 0, l, [.row, .done t "home"], [.ref t1, .ref t2], rfl, hT.mono (s4.trans (s5.trans s6)), upd_same, ⟨⟨t1, rfl, (s5.trans s6) _ _ upd_same⟩, ⟨t2, rfl, a, s6 _ _ upd_same, hA3.tk (tk_same (s4.trans (s5.trans s6)))⟩, trivial⟩, ⟨0, rfl, rfl, rfl⟩, ?_, by omega, by decide, fun H4 p m' hrun hT4 => ?_⟩
  · show 1 + (20 * cnt t + 5 + 0) ≤ 2000
    omega
  obtain ⟨gs, g1, g2⟩ := hT4.gs
  match gs, g2 with
  | [v], ⟨⟨b, e, hb⟩, _⟩ =>
    subst e
    refine ⟨_, rfl, x2, CT, _, _, _, rfl, hT4.ob, X.clT, X.tGot, l_got _ _ _ _, .inl ⟨rfl, _, SqL.of g1⟩, gl, _, .ref b, rfl, rfl, g1, by simp, ?_⟩
    have tk : TK H4 (upd H4 gl (.lst (List.reverse [V.ref b]).dropLast)) := tk_put g1
    refine q _ b p (same_mut hT4.sm hT4.o3) ⟨m', hrun⟩ (PAt.tk tk hb)
/-! ### turn_book -/
def TurV (H : Hp) (e : Er) (v : V) : Prop := ∃ q r b p, v = .ref q ∧ H q = some (.tup [.str e.1, .ref r, .ref b]) ∧ H r = some (.tup (e.2.1.map V.str)) ∧ RunB e.2.1 e.2.2 p ∧ PAt H p b
theorem TurV.tk {H H' : Hp} (t : TK H H') {e : Er} {v : V} (h : TurV H e v) : TurV H' e v :=
  let ⟨q, r, b, p, e1, h1, h2, h3, h4⟩ := h; ⟨q, r, b, p, e1, t _ _ h1, t _ _ h2, h3, PAt.tk t h4⟩
def spTBook : Sp := fun vs H Q _ => ∃ (p : Addr) (es : List Er) (us : List V), vs = [.ref p] ∧ BkAt H es us p ∧ es.length ≤ 6 ∧ (∀ e ∈ es, cnt e.2.2 ≤ 90 ∧ e.2.1.length ≤ 10) ∧ ∀ H' p' vs, Same H H' → H' p' = some (.tup vs) → All2 (TurV H') es vs → Q (.ref p') H'
abbrev sturn_book : Stmt := top 14
theorem scturn_book : FnScope ["book", "name", "names", "body"] ["book"] (defScope sturn_book) := ⟨rfl, rfl, rfl, by decide +kernel, rfl, by decide +kernel, by decide +kernel⟩
theorem ok_tbook (T : Txt K mg) {f f1 : Addr} {fd d1 : FuncData} (F : Fun K "turn_book" "turn_book" sturn_book f fd) (Gturned_body : FnOk P w K mg base CX0 6 f1 d1 ["names", "body"] spTBody) (Rturned_body : Ref K mg "turned_body" f1 d1 ["names", "body"]) : FnOk P w K mg base CX0 7 f fd ["book"] spTBook := by
  refine F.ok scturn_book (fun vs H Q E h => ?_) (fun cdv A outer s H vs Q E hr h => ?_)
  · obtain ⟨p, es, us, rfl, _⟩ := h
    rfl
  obtain ⟨p, es, us, rfl, hB, hl6, hc, q⟩ := h
  refine ⟨_, (pss_one (ps_ret (pe_callTy call_tuple_of (by rfl) T.m_tuple (by decide +kernel) (pa_cons (pe_lc (own := [("name", 1), ("names", 2), ("body", 3)]) (g := gTup K 3 (gCons (gName 1) (gCons (gName 2) (gCons (gName 3) gNil)))) (by rfl) scturn_book.nd (pi_tup (pv 0)) (blkOk_by (own := [("name", 1), ("names", 2), ("body", 3)]) (N := ["book", "name", "names", "body"]) (sc := defScope sturn_book) (by decide +kernel)) (fun _ _ _ _ _ => (pg_tup rfl (pgs_cons (pg_name (i := 1) scturn_book.nd rfl (Or.inl rfl)) (pgs_cons (pg_name (i := 2) scturn_book.nd rfl (Or.inl rfl)) (pgs_cons (pg_name (i := 3) scturn_book.nd rfl (Or.inl rfl)) pgs_nil))))) (fun _ _ _ _ _ => pts_nil) (fun _ _ _ _ _ => (pe_tup (pa_cons (pv 1) (pa_cons (pv 2) (pa_cons (pe_call Gturned_body hr rfl Rturned_body.m Rturned_body.k Rturned_body.b .nil pass0 (pa_cons (pv 2) (pa_cons (pv 3) pa_nil))) pa_nil)))))) pa_nil)))), ?_⟩
  refine ⟨_, rfl, p, rfl, ⟨_, SqT.of hB.1⟩, fun D hD => lc_tup (K := K) (a := p) (xs := us) (fun i H' => Same H H' ∧ ∃ acc, H' D = some (.lst acc) ∧ All2 (TurV H') (es.take i) acc) ⟨same_new hD _, [], upd_same, by rw [List.take_zero]; trivial⟩ ?_ ?_ ?_⟩
  · rintro i H' _ ⟨s2, _⟩
    exact SqT.of (s2 _ _ hB.1)
  · rintro i x H2 hx2 ⟨s2, acc, h2, k2⟩
    obtain ⟨e, he, qa, r, b, rfl, g1, g2, g3⟩ := hB.2.get hx2
    have hee := mem_of_get he
    obtain ⟨hc1, hc2⟩ := hc e hee
    obtain ⟨hj, hj2⟩ := List.getElem?_eq_some_iff.mp he
    have hle := k2.len
    rw [List.length_take] at hle
    refine ⟨qa, _, rfl, SqT.of (s2 _ _ g1), rfl, _, _, rfl, _, _, rfl, _, _, rfl, rfl, rfl, ?_⟩
    dsimp only [tYes]
    refine iteT ⟨_, rfl, _, rfl, _, rfl, _, rfl, r, b, e.2.1, e.2.2, rfl, s2 _ _ g2, At.tk (tk_same s2) g3, hc1, hc2, fun H3 b3 p3 s3 hrun hp3 => ?_⟩
    refine ⟨sz (by show 3 ≤ 100000; decide), fun t3 ht3 => ?_⟩
    have s4 := same_new ht3 (.tup [.str e.1, .ref r, .ref b3])
    have s34 := s3.trans s4
    have h4 := s34 _ _ h2
    have tk := tk_put (o := .lst (acc ++ [.ref t3])) h4
    refine ⟨acc, h4, Nat.lt_of_le_of_lt (m := 100) (by omega) (by decide), same_mut (s2.trans s34) hD, _, upd_same, ?_⟩
    rw [List.take_succ_eq_append_getElem hj, hj2]
    exact ((k2.imp fun _ _ z => TurV.tk (tk_same s34) z).imp fun _ _ z => z.tk tk).app ⟨⟨t3, r, b3, p3, rfl, tk _ _ upd_same, tk _ _ ((s2.trans s34) _ _ g2), hrun, PAt.tk ((tk_same s4).trans tk) hp3⟩, trivial⟩
  · rintro H2 ⟨s2, acc, h2, k2⟩
    rw [hB.2.len, List.take_length] at k2
    refine ⟨D, acc, rfl, .inl ⟨SqL.of h2, fun p' hp' => ?_⟩⟩
    have s3 := same_new hp' (.tup acc)
    exact q _ p' acc (s2.trans s3) upd_same (k2.imp fun _ _ z => TurV.tk (tk_same s3) z)
end
end KB

namespace KB
open PySem L2 PyProof.Rows
open PySem.AutoSeq1 (wpAny_loadPart')

/-! ### enumerate(tuple): the layer has it over lists alone -/
theorem new_enumT (l : Addr) (us : Array Value) (n : Nat) (dd : Option Addr) (sl : Array (Option Value)) :
    Meets (Builtin.«enumerate.__new__» ⟨[.type "enumerate", .ref l], []⟩) (fun _ R s =>
      s.heap.get? l = some { cls := .type "tuple", dict := dd, data := .seq us n, slots := sl } ∧
      R (.ok (.ret (.ref (s.heap.push { cls := .type "tuple_iterator", data := .fields #[.ref l, .int 0 0] }).objs.size)))
        { s with heap := (s.heap.push { cls := .type "tuple_iterator", data := .fields #[.ref l, .int 0 0] }).push { cls := .type "enumerate", data := .fields #[.none, .bool false, .ref s.heap.objs.size, rawInt 0, .none, .none] } }) := by
  refine .of_wp fun prog w A R s h => ?_
  obtain ⟨hp, g, d, tk, os⟩ := s
  obtain ⟨hl, h⟩ := h
  have hsub := sub_enumerate
  have hL : Heap.IsTuple (Shared.heap ⟨hp, g, d, tk, os⟩) l us := ⟨_, hl, rfl, n, rfl⟩
  wp_walk using wpAny_loadPart' hl
  refine wpAny_stack_any fun st => wpAny_pure ?_
  split
  · rename_i c _ _ _ _ _
    cases (c == Value.type "enumerate")
    all_goals
      wp_walk using wpAny_loadPart' hl, wpAny_pyIter_tuple hL
      exact ⟨_, rfl, h⟩
  · wp_walk using wpAny_loadPart' hl, wpAny_pyIter_tuple hL
    exact ⟨_, rfl, h⟩
section
variable {prog : Program} {w : World} {A : Around} {E : Value → Shared → Prop} {s : Shared}
theorem call_enumT {l : Addr} {us : Array Value} {Q : Value → Shared → Prop} (hL : s.heap.IsTuple l us)
    (h : ∀ h', IsEnum h' (s.heap.objs.size + 1) s.heap.objs.size 0 .none → h'.IsTupleIter s.heap.objs.size l 0 →
      (∀ b o, s.heap.get? b = some o → h'.get? b = some o) → Q (.ref (s.heap.objs.size + 1)) { s with heap := h' }) :
    wpAny (model prog w) A (call (.type "enumerate") [.ref l]) Q E s := by
  obtain ⟨⟨c, dct, dt, sl⟩, hl, hc, n, hd⟩ := hL
  cases (show c = .type "tuple" from hc)
  cases (show dt = .seq us n from hd)
  refine callType_new F.called_enumerate (by decide) (F.typeCall_enumerate_1 _) (F.newCall_enumerate_1 _) (fun obj => F.args_object_init_2 obj _) F.entry_enumerate_new
    (new_enumT l us n dct sl) ⟨hl, ?_⟩
  have hz : (s.heap.push { cls := .type "tuple_iterator", data := .fields #[.ref l, .int 0 0] }).objs.size = s.heap.objs.size + 1 := Heap.size_push ..
  show _ ∧ _
  rw [hz]
  have g0 := Heap.get?_push_size (s.heap.push { cls := .type "tuple_iterator", data := .fields #[.ref l, .int 0 0] })
    (o := { cls := .type "enumerate", data := .fields #[.none, .bool false, .ref s.heap.objs.size, rawInt 0, .none, .none] }) rfl
  rw [hz] at g0
  refine ⟨⟨_, g0, rfl⟩, h _ g0 ⟨_, Heap.get?_push_of_some _ (Heap.get?_push_size _ rfl), rfl, rfl⟩ fun b o x => ?_⟩
  exact Heap.get?_push_of_some _ (Heap.get?_push_of_some _ x)
end
theorem drawsT {prog : Program} {w : World} {A : Around} (hh : A.handled = none) (it l : Addr) (hne : l ≠ it) (us : Array Value) :
    Draws prog w A it [it, l] us.size (fun i v => us[i]? = some v) (fun i h => h.IsTupleIter it l i ∧ h.IsTuple l us) where
  live := fun _ _ st => let ⟨o, ho, _⟩ := st.1; ⟨o, ho⟩
  frame := fun _ _ _ st hk => ⟨st.1.at fun o e => hk it (by simp) o e, let ⟨o, ho, r⟩ := st.2; ⟨o, hk l (by simp) o ho, r⟩⟩
  item := fun i s Q E hi st hQ => by
    refine RZ.nextOf_tuple_item st.1 st.2 (x := us[i]) (by simp [hi]) fun h' hit' hs' => ?_
    exact hQ _ h' s.toks (by simp [hi]) ⟨hit', st.2.extBut hs'.extBut hne⟩ hs'
  done := fun s Q E st hE => RZ.nextOf_tuple_end hh st.1 st.2 (by simp) hE
/-- the tuple at a, each item in a new pair -/
def IteT (K : PySem.W.Frag) (a : Addr) : It where
  go := fun i H => ∃ (xs : List V) (x : V), SqT K H a xs ∧ xs[i]? = some x
  yld := fun i H v H' => ∃ T x, v = .ref T ∧ H T = none ∧ H' = upd H T (.tup [.int (i : Nat), x]) ∧ ∀ xs, SqT K H a xs → xs[i]? = some x
  stop := fun i H => ∃ xs : List V, SqT K H a xs ∧ xs.length = i
theorem turn_enumT {P : Program} {w : World} {K : PySem.W.Frag} {elts : List Expr} {kk : Nat} {tpos : Pos} (a e it : Addr) :
    Turn P w K (.Tuple elts kk tpos) (IteT K a) [e, it] e (fun i h => (∃ old, IsEnum h e it ((i : Nat) : Int) old) ∧ h.IsTupleIter it a i ∧ e ≠ it ∧ a ≠ it ∧ a ≠ e) where
  mem := by simp
  obj := fun i h st b hb => by
    obtain ⟨⟨old, he⟩, ⟨o, ho, hc, hd⟩, _⟩ := st
    have e' : b = e ∨ b = it := by simpa using hb
    rcases e' with z | z
    · rw [z]; exact ⟨_, he, fun v q => nomatch q⟩
    · rw [z]; exact ⟨o, ho, fun v q => by rw [hd] at q; cases q⟩
  keep := fun i h h' st k => let ⟨⟨old, he⟩, hi, hne⟩ := st; ⟨⟨old, k e (by simp) _ he⟩, hi.at fun o q => k it (by simp) o q, hne⟩
  item := by
    intro X hP hw hK hc i pins s σ H E I hf st hg
    subst hP hw hK
    obtain ⟨⟨old, he⟩, hit, hne, hai, hae⟩ := st
    obtain ⟨xs, x, hq, hx⟩ := hg
    obtain ⟨its, rv, p, hz⟩ := I.tuple hq
    obtain ⟨u, hu, ru⟩ := rv.get hx
    have hel : e < s.heap.objs.size := Heap.lt_size he
    have hil : it < s.heap.objs.size := by obtain ⟨_, q, _⟩ := hit; exact Heap.lt_size q
    have hiz : i < its.toArray.size := by
      have := (List.getElem?_eq_some_iff.mp hu).1
      simpa using this
    refine wpAny_pyNext_enum_itemD (drawsT (A := X.A.in1) (show X.A.in1.handled = none from I.ok.hd hc) it a hai its.toArray) he ⟨hit, p⟩ hiz hne (by simp [hne, Ne.symm hae]) fun y h' tk hy ho hst hT hsz hk => ?_
    have ey : y = u := by
      have h2 : its.toArray[i]? = some u := by simpa using hu
      rw [hy] at h2
      exact Option.some.inj h2
    subst ey
    refine ⟨_, rfl, wpAny_letOwnedTupleGo_enum (s := { s with heap := h', toks := tk + 1 }) ho fun h'' he' sb => ?_⟩
    have hT2 : h''.get? s.heap.objs.size = some { cls := .type "tuple", data := .seq #[.int i tk, y] } := (sb.2 _ (Nat.ne_of_gt hel)).trans hT
    have new : ObjOk X.prog X.w (upd H s.heap.objs.size (.tup [.int (i : Nat), x])) h'' s.heap.objs.size (.tup [.int (i : Nat), x]) :=
      ⟨by show 2 ≤ sizeLine; decide, [.int i tk, y], .cons ⟨_, rfl⟩ (.cons ru .nil), ⟨_, hT2, rfl, _, rfl⟩⟩
    have I1 : Inv X pins σ (upd H s.heap.objs.size (.tup [.int (i : Nat), x])) { s with heap := h'', toks := tk + 1 } :=
      I.turnedNew (ch := [e, it]) (fun b ob hb q => (sb.2 b (fun z => hb (by simp [z]))).trans (hk b ob (fun z => hb (by simp [z])) (fun z => hb (by simp [z])) q)) hf (Nat.le_refl _) new
    refine ⟨.ref s.heap.objs.size, _, I1, rfl, ⟨_, x, rfl, I.hok.fresh (Nat.le_refl _), rfl, fun ys hy => by rw [I.tuple_inj hy hq]; exact hx⟩, ⟨⟨y, ?_⟩, hst.1.at fun o q => (sb.2 it (Ne.symm hne)).trans q, hne, hai, hae⟩, fun b hb => ?_⟩
    · have e1 : ((i + 1 : Nat) : Int) = (i : Int) + 1 := by omega
      rw [e1]
      exact he'
    · have hb' : b < s.heap.objs.size := by
        have e' : b = e ∨ b = it := by simpa using hb
        rcases e' with z | z
        · rw [z]; exact hel
        · rw [z]; exact hil
      rw [upd_ne (Nat.ne_of_lt hb')]
      exact (hf b hb).1
  done := by
    intro X hP hw hK hc i pins s σ H E I hf st hg
    subst hP hw hK
    obtain ⟨⟨old, he⟩, hit, hne, hai, hae⟩ := st
    obtain ⟨xs, hq, hx⟩ := hg
    obtain ⟨its, rv, p, hz⟩ := I.tuple hq
    obtain ⟨f0, f1, f2, f3, f4, f5⟩ := hf it (by simp)
    have hl := rv.length
    have hge : i = its.toArray.size := by
      rw [List.size_toArray]
      omega
    subst hge
    exact wpAny_pyNext_enum_endD (drawsT (A := X.A.in1) (show X.A.in1.handled = none from I.ok.hd hc) it a hai its.toArray) he ⟨hit, p⟩ fun h' eb => ⟨rfl, I.turned (t' := s.toks) (fun b o hb e => eb b o hb e) f0 f1 f3 f4 f5⟩
  self := fun A i s Q E st h => let ⟨⟨_, he⟩, _⟩ := st; wpAny_pyIter_enum he h
def iEnumT (K : PySem.W.Frag) (ta : TA) : TI := fun σ H R => ta σ H fun vs H1 => ∃ a xs, vs = [.ref a] ∧ SqT K H1 a xs ∧ R (IteT K a) H1
theorem pi_enumT {X : Cx} {e : Expr} {ta : TA} {p pos tpos : Pos} {elts : List Expr} {kk : Nat} (hg : Gl X "enumerate") (hm : X.mg "enumerate" = none) (ha : PA X [e] ta) (hs : starEach [e] X.env = [(false, eval e X.env)] := by rfl) :
    PI X (.Tuple elts kk tpos) (.Call (.Name "enumerate" p) [e] [] pos) (iEnumT X.K ta) := by
  refine ⟨fun pins s σ H R I h => ?_⟩
  refine Call_ (ld_blt I hg hm boot_enumerate (PyProof.Rows.callWith_type1 (thn (ha.run pos pins s σ H _ I h) fun us s1 ⟨vs, H1, I1, r1, q1⟩ => ?_) hs rfl))
  obtain ⟨a, xs, ex, hq, q⟩ := q1
  subst ex
  cases r1 with
  | cons r rr =>
    cases rr
    cases r
    obtain ⟨its, rv, p', hz⟩ := I1.tuple hq
    have hal : a < s1.heap.objs.size := by obtain ⟨_, z, _⟩ := p'; exact Heap.lt_size z
    refine call_enumT p' fun h' he hit hk => wpAny_pyIter_enum he ?_
    have I2 : Inv X pins σ H1 { s1 with heap := h' } := I1.kept (t' := s1.toks) hk
    refine ⟨s1.heap.objs.size + 1, [s1.heap.objs.size + 1, s1.heap.objs.size], _, _, H1, rfl, I2, turn_enumT a (s1.heap.objs.size + 1) s1.heap.objs.size, ⟨⟨.none, he⟩, hit, Nat.succ_ne_self _, Nat.ne_of_lt hal, Nat.ne_of_lt (Nat.lt_succ_of_lt hal)⟩, fun b hb => ?_, q⟩
    have hle : s1.heap.objs.size ≤ b := by
      have e' : b = s1.heap.objs.size + 1 ∨ b = s1.heap.objs.size := by simpa using hb
      rcases e' with z | z
      · rw [z]
        exact Nat.le_add_right _ _
      · rw [z]
        exact Nat.le_refl _
    exact I1.fpOk hle (I1.hok.fresh hle)
end KB
namespace KB
open PySem L2
theorem for_enT {K : PySem.W.Frag} {a : Addr} {xs : List V} {g : TG} {tb : TS} {D : Ends} {σ : St} {H : Hp} (Pv : Nat → St → Hp → Prop) (h0 : Pv 0 σ H) (hl : ∀ i σ H, i ≤ xs.length → Pv i σ H → SqT K H a xs)
    (hs : ∀ i x T σ H, xs[i]? = some x → H T = none → Pv i σ H → g (.ref T) σ (upd H T (.tup [.int (i : Nat), x])) fun σ2 H2 => tb { D with nx := Pv (i + 1), ct := Pv (i + 1), bk := D.nx } σ2 H2) (hd : ∀ σ H, Pv xs.length σ H → D.nx σ H) :
    ∃ W : Nat → Nat → St → Hp → Prop, (∃ m, W 0 m σ H) ∧ ∀ i m σ H, W i m σ H →
      ((IteT K a).stop i H ∧ D.nx σ H) ∨ ((IteT K a).go i H ∧ ∃ N : St → Hp → Prop, (∀ σ' H', N σ' H' → ∃ m', m' < m ∧ W (i + 1) m' σ' H') ∧ ∀ x H', (IteT K a).yld i H x H' → g x σ H' fun σ2 H2 => tb { D with nx := N, ct := N, bk := D.nx } σ2 H2) := by
  refine ⟨fun i m σ H => m = xs.length - i ∧ i ≤ xs.length ∧ Pv i σ H, ⟨xs.length, by simp, Nat.zero_le _, h0⟩, ?_⟩
  rintro i m σ H ⟨rfl, hi, p⟩
  have q := hl i σ H hi p
  by_cases hlt : i < xs.length
  · refine .inr ⟨⟨xs, xs[i], q, by simp [hlt]⟩, Pv (i + 1), fun σ' H' p' => ⟨xs.length - (i + 1), by omega, rfl, hlt, p'⟩, fun x H' y => ?_⟩
    obtain ⟨T, z, rfl, hT, rfl, hz⟩ := y
    exact hs i z T σ H (hz xs q) hT p
  · have e : i = xs.length := by omega
    subst e
    exact .inl ⟨⟨xs, q, rfl⟩, hd σ H p⟩

end KB

namespace KB
open PySem PySem.Spec PyProof.Rows L2

/-! ### a def's promise where no repr is under way -/
structure FnG (P : Program) (w : World) (K : PySem.W.Frag) (mg : Str → Option Value) (base : Heap) (CX : CXT) (k : Nat) (f : Addr) (fd : FuncData) (ps : List Str) (sp : Sp) : Prop where
  ln : ∀ vs H Q E, sp vs H Q E → vs.length = ps.length
  go : ∀ (A : Around) (o : List Env) (s : Shared) (H : Hp) (as : Args) (us : List Value) (vs : List V) (Q : VK) (E : XK), A.guards = some [] → Room k A → Env0 P w K mg base A o s H → BindsTo s fd as (ps.zip us) →
    Vals vs us → sp vs H Q E → codeAny (model P w) A (.call (.ref f) as) (CR CX o P w H s Q E) s
section
variable {P : Program} {w : World} {K : PySem.W.Frag} {mg : Str → Option Value} {base : Heap}
theorem okG {x qual : Str} {st : Stmt} {f : Addr} {fd : FuncData} {N ps : List Str} {k : Nat} {sp : Sp} (F : Fun K x qual st f fd) (S : FnScope N ps (defScope st)) (hln : ∀ vs H Q E, sp vs H Q E → vs.length = ps.length)
    (hb : ∀ (cv : Value) (A : Around) (o : List Env) (s : Shared) (H : Hp) (vs : List V) (Q : VK) (E : XK), A.guards = some [] → Room k (A.deeper (envOfC qual (defScope st) s.heap.objs.size f cv)) → sp vs H Q E →
      ∃ t, PSs (cxOf CX0 P w K mg base N qual (defScope st) f cv A o s H E).nox (defBody st) t ∧ t { nx := fun _ H' => Q .non H', rt := Q } (start N vs) H) :
    FnG P w K mg base CX0 (k + 1) f fd ps sp := by
  obtain ⟨_, _, _, _, _, _, cv, _, _, rfl, look, code⟩ := F.ex
  constructor
  · exact hln
  intro A o s H as us vs Q E g room e0 bnd rel want
  have grow := fun b u e => (e0.bs b u e).1
  have inK : K.In s.heap := e0.mod.kin.keeps grow
  have nolim : s.heap.NoLimit := e0.mod.nolimit.keeps grow
  apply codeAny_call_function room.depth (inK _ _ look) rfl S.co S.gen rfl (PySem.W.codeRec_of inK code)
  apply bnd
  apply wpAny_newFunctionEnv_cells S.kind
  · rintro ⟨n, v⟩ hy
    cases S.par n (List.of_mem_zip hy).1 with
    | inl q => exact Or.inl q
    | inr q => exact Or.inr ⟨q, PySem.W.cellsFrom_some _ _ _ (Or.inl q)⟩
  intro env he s1 x
  subst he
  constructor
  · exact nolim.keeps x.toInCall.keep
  apply codeAny_func
  obtain ⟨t, ht, hq⟩ := hb cv A o s H vs Q E g (room.deeper _) want
  apply wpAny_mono (ht.nox.run [] s1 (start N vs) H _ (inv_start S room.hd e0 (hln _ _ _ _ want) rel x) hq)
  · intro fl s' z
    cases fl with
    | ret u =>
      obtain ⟨v, σ', H', J, rv, q⟩ := z
      exact ⟨v, H', J.os, J.bare, J.base, J.hok, rv, q⟩
    | next =>
      obtain ⟨σ', H', J, q⟩ := z
      exact ⟨.non, H', J.os, J.bare, J.base, J.hok, rfl, q⟩
    | brk => exact z.choose_spec.choose_spec.2.elim
    | cont => exact z.choose_spec.choose_spec.2.elim
  · intro e s' z
    exact z
end

section
variable {X : Cx}
/-- a global function's call, where no repr is under way -/
theorem callG {CX : CXT} {k : Nat} {f : Addr} {fd : FuncData} {ps : List Str} {sp : Sp} {E : XK} (F : FnG X.prog X.w X.K X.mg X.base CX k f fd ps sp) (g : X.A.guards = some []) (hr : Room k X.A) (hb : Binds X.K fd ps []) (hx : Passes CX X E) :
    CallR X (.ref f) fun vs H Q => sp vs H Q E := by
  intro pins s σ H vs us Q I r h
  have hl : (us ++ []).length = ps.length := by
    rw [List.append_nil, ← r.length]
    exact F.ln _ _ _ _ h
  have bd := hb s us I.kIn hl
  rw [List.append_nil] at bd
  apply wpAny_call
  apply codeAny_mono (F.go X.A X.stack s H ⟨us, []⟩ us vs Q E g hr I.env0 bd r h)
  intro res s' q
  match res, q with
  | .ok (.ret u), q => exact I.after q
  | .ok .next, q => exact False.elim q
  | .ok .brk, q => exact False.elim q
  | .ok .cont, q => exact False.elim q
  | .error e, q => exact hx pins σ H s e s' I q
/-- a call of a global that holds a function, by what the function's call does -/
theorem pe_callR {f : Addr} {x : Str} {p pos : Pos} {e : Expr} {es : List Expr} {t : TA} {r : List V → Hp → VK → Prop} (hc : CallR X (.ref f) r) (hg : Gl X x) (hm : X.mg x = some (.ref f)) (hk : PySem.W.keepIn X.K (.ref f) = true) (ha : PA X (e :: es) t)
    (hdb : (x == ("__debug__" : Str)) = false := by decide) (he : starEach (e :: es) X.env = (false, eval e X.env) :: starEach es X.env := by rfl) (hpl : (backTo pos (starEach es X.env)).any (·.1) = false := by rfl) :
    PE X (.Call (.Name x p) (e :: es) [] pos) (fun σ H Q => t σ H fun vs H1 => r vs H1 Q) := by
  constructor
  intro pins s σ H Q I h
  apply wpAny_Call_Name_kw (ld_glob I hg hm ?_ hdb)
  apply PySem.W.callWith_K (h₀ := X.base) I.ok.mod.kin hk ?_ he hpl
  apply thn (ha.run pos pins s σ H _ I h)
  rintro us s1 ⟨vs, H1, I1, rv, q⟩
  exact ⟨I1.kIn, hc pins s1 σ H1 vs us Q I1 rv q⟩
end

/-! ### the law's call -/
section
variable {P : Program} {w : World} {K : PySem.W.Frag} {mg mb : Str → Option Value} {k : Nat} {fa a : Addr} {fd : FuncData} {x : Str} {sp : Sp} {s : Shared} {vs : List Value} {ns : List Int}
/-- how the law's call ends -/
def Told (s : Shared) (r : Result) (s' : Shared) : Prop := r = .ok (.ret (.bool true)) ∧ OldK s.heap s'.heap ∧ s'.os = s.os ∧ AllBare s'.gens
theorem law_at (KX : K.In s.heap) (n1 : s.heap.Ns mainGlobals mg) (n2 : s.heap.Ns builtinsNs mb) (n3 : ∀ x : Str, x ≠ "__name__" → mb x = bootBuiltins x) (n4 : s.heap.NoLimit) (hg : s.gens = #[])
    (ha : s.heap.get? a = some { cls := .type "list", data := .seq vs.toArray }) (room : Room k callerA) (F : ∀ base : Heap, K.In base → base.Ns mainGlobals mg → FnG P w K mg base CX0 k fa fd [x] sp)
    (bnd : ∀ (s : Shared) (u : Value), BindsTo s fd ⟨[u], []⟩ [(x, u)]) {H : Hp} (want : sp [.ref a] H (fun v _ => v = .bl true) fun _ _ _ => False) (only : ∀ b, H b = none ∨ (b = a ∧ ∃ o xs, H b = some (.frz o (.lst xs)))) (hok : HOk P w H s.heap) (hK : H a ≠ none → K.lookup a = none) :
    codeAny (model P w) callerA (.call (.ref fa) ⟨[.ref a], []⟩) (Told s) s := by
  have isA : ∀ b, H b ≠ none → b = a := fun b z => (only b).elim (fun y => absurd y z) fun y => y.1
  have noD : ∀ (b : Addr) (o : Obj) (es : Array DictEntry) (ep : Nat), s.heap.get? b = some o → o.data = .dict es ep → H b = none := by
    intro b o es ep e d
    apply Classical.byContradiction
    intro z
    rw [isA b z, ha] at e
    cases e
    cases (show Data.seq vs.toArray _ = Data.dict es ep from d)
  have nsH : ∀ (b : Addr) (m : Str → Option Value), s.heap.Ns b m → (hidT s.heap H).Ns b m := by
    rintro b m ⟨o, es, ep, e, d, r⟩
    exact ⟨o, es, ep, hidT_get e (noD b o es ep e d), d, r⟩
  have inH : K.In (hidT s.heap H) := by
    intro b o e
    apply hidT_get (KX b o e)
    apply Classical.byContradiction
    intro z
    have hb := isA b z
    rw [hb] at e z
    rw [hK z] at e
    cases e
  obtain ⟨mc, c1, c2⟩ := n4
  have e0 : Env0 P w K mg (hidT s.heap H) callerA [] s H := by
    constructor
    · rfl
    · exact ⟨inH, nsH _ _ n1, ⟨mb, nsH _ _ n2, n3⟩, ⟨mc, nsH _ _ c1, c2⟩⟩
    · exact fun b o e => of_hidT e
    · exact Nat.le_of_eq (hidT_size _ _)
    · trivial
    · intro b z
      cases (show b ∈ ([] : List Addr) from z)
    · exact hok
    · exact .of_eq hg
  apply codeAny_mono ((F _ inH (nsH _ _ n1)).go callerA [] s H ⟨[.ref a], []⟩ [.ref a] [.ref a] _ _ rfl room e0 (bnd s (.ref a)) (.cons rfl .nil) want)
  intro r s' q
  match r, q with
  | .error e, q => exact q.elim
  | .ok .next, q => exact False.elim q
  | .ok .brk, q => exact False.elim q
  | .ok .cont, q => exact False.elim q
  | .ok (.ret u), ⟨v, H', os, bare, un, hok', rv, tv⟩ =>
    have tv : v = .bl true := tv
    subst tv
    have rv : u = Value.bool true := rv
    subst rv
    refine ⟨rfl, OldK.of_keep ?_, os, bare⟩
    intro b o e
    rcases only b with z | ⟨_, ob, xs, z⟩
    · apply un.keep b o e z _ (by simp)
      intro y
      cases (show b ∈ ([] : List Addr) from y)
    · have f1 := (hok b _ z).1
      have f2 := (hok' b _ (un.frzs b ob _ z)).1
      rw [e] at f1
      cases f1
      exact f2
theorem law_callG (KX : K.In s.heap) (n1 : s.heap.Ns mainGlobals mg) (n2 : s.heap.Ns builtinsNs mb) (n3 : ∀ x : Str, x ≠ "__name__" → mb x = bootBuiltins x) (n4 : s.heap.NoLimit) (hg : s.gens = #[])
    (ha : s.heap.get? a = some { cls := .type "list", data := .seq vs.toArray }) (hi : IntsAre vs ns) (hl : ns.length ≤ sizeLine) (room : Room k callerA) (F : ∀ base : Heap, K.In base → base.Ns mainGlobals mg → FnG P w K mg base CX0 k fa fd [x] sp)
    (bnd : ∀ (s : Shared) (u : Value), BindsTo s fd ⟨[u], []⟩ [(x, u)]) (want : ∀ H : Hp, SqL K H a (ns.map V.int) → sp [.ref a] H (fun v _ => v = .bl true) fun _ _ _ => False) :
    codeAny (model P w) callerA (.call (.ref fa) ⟨[.ref a], []⟩) (Told s) s := by
  have rel := vals_ints hi
  cases look : K.lookup a with
  | some o =>
    have e := KX a o look
    rw [ha] at e
    cases e
    refine law_at (H := fun _ => none) KX n1 n2 n3 n4 hg ha room F bnd (want _ ?_) (fun _ => .inl rfl) (fun b u z => ?_) (fun z => absurd rfl z)
    · refine .inr ⟨_, vs.toArray, _, look, rfl, rfl, rfl, ?_, by simpa using rel⟩
      rw [List.size_toArray, hi.length]
      exact hl
    · cases (show (none : Option HO) = some u from z)
  | none =>
    have at1 : ∀ b, (if b = a then some (HO.frz { cls := .type "list", data := .seq vs.toArray } (.lst (ns.map V.int))) else none) = none ∨ b = a := fun b => by
      by_cases c : b = a
      · exact .inr c
      · exact .inl (if_neg c)
    refine law_at (H := fun b => if b = a then some (.frz { cls := .type "list", data := .seq vs.toArray } (.lst (ns.map V.int))) else none) KX n1 n2 n3 n4 hg ha room F bnd (want _ (.inl (.inr ⟨_, if_pos rfl⟩))) (fun b => ?_) (fun b u z => ?_) (fun _ => look)
    · rcases at1 b with c | c
      · exact .inl c
      · exact .inr ⟨c, _, _, if_pos c⟩
    · rcases at1 b with c | c
      · cases (c.symm.trans z)
      · subst c
        have z := (if_pos rfl).symm.trans z
        cases z
        refine ⟨ha, ?_, vs, _, rel, ha⟩
        rw [List.length_map]
        exact hl
end
theorem walk_G {l : PySem.W.OpenLaw} {n k : Nat} {q : Program} {loose : List Str} {XP : (Str → Option Value) → Heap → Prop} {YP : World → Heap → Prop} {d : DefRec} {K : Params → PySem.W.Frag} {sp : World → Sp} {x : Str}
    (hn : l.most = some n) (hs : n ≤ sizeLine) (hdf : d.params.defaults = []) (room : Room k callerA) (hY : ∀ (w : World) (h : Heap), YP w h → (K w.params).In h)
    (F : ∀ (w : World) (mg : Str → Option Value) (fa : Addr) (h : Heap), (K w.params).In h → h.Ns mainGlobals mg → mg d.name = some (.ref fa) →
      ∃ fd : FuncData, (∀ (s : Shared) (u : Value), BindsTo s fd ⟨[u], []⟩ [(x, u)]) ∧ ∀ base : Heap, (K w.params).In base → base.Ns mainGlobals mg → FnG l.prog w (K w.params) mg base CX0 k fa fd [x] (sp w))
    (want : ∀ (w : World) (H : Hp) (a : Addr) (ns : List Int), ns.length ≤ n → SqL (K w.params) H a (ns.map V.int) → sp w [.ref a] H (fun v _ => v = .bl true) fun _ _ _ => False) :
    PySem.W.WalkO q loose XP YP l.row.toRowW d [] (fun f vs => PySem.call f vs) := by
  apply Att.attach_call hn hdf
  intro w s0 s1 mg mb fa o pm cd doc a vs ns G Y ho hd hcd hmg hobj hints hlen hg
  have inK := hY w _ Y
  obtain ⟨fd, hb, hF⟩ := F w mg fa _ inK G.T.g hmg
  exact law_callG inK G.T.g G.T.b G.T.builtins G.T.nolimit hg hobj hints (Nat.le_trans hlen hs) room hF hb fun H z => want w H a ns hlen z
end KB

namespace KB.N
open PySem L2
open PySem.AutoSeq1 PySem.MeetsSeq PySem.MeetsSeq2 PySem.MeetsSeq3

/-! ### two rules that the layer lacks: a list extended by a tuple, a text times a number -/
section
variable {X : Cx}
end
end KB.N

namespace KB.N
open PySem L2

/-! ### terms as data -/
section
variable {P : Program} {w : World} {K : PySem.W.Frag} {mg : Str → Option Value} {base : Heap}
/-! ### parts_of and _law_parts -/
end
end KB.N

namespace KB.N
open PySem L2

/-! ### rules and small facts -/
/-! ### stacks of terms -/
section
variable {P : Program} {w : World} {K : PySem.W.Frag} {mg : Str → Option Value} {base : Heap}
end
end KB.N

namespace KB.N
open PySem L2

/-! ### what leaves the tuples -/
/-! ### two lists, item by item -/
end KB.N

namespace KB.N
open PySem L2

/-! ### books -/
section
variable {P : Program} {w : World} {K : PySem.W.Frag} {mg : Str → Option Value} {base : Heap}
end
end KB.N

namespace KB.N
open PySem L2

end KB.N

namespace KB.N
open PySem L2

/-! ### words as the program has them -/
/-! ### the tape and lists of words -/
section
variable {P : Program} {w : World} {K : PySem.W.Frag} {mg : Str → Option Value} {base : Heap}
/-! ### _law_cell_at -/
/-! ### _law_tape -/
/-! ### _law_digit -/
/-! ### _law_number -/
end
end KB.N

namespace KB.N
open PySem L2

/-! ### good terms -/
section
variable {P : Program} {w : World} {K : PySem.W.Frag} {mg : Str → Option Value} {base : Heap}
/-! ### _law_leaf -/
/-! ### _law_shares -/
/-! ### _law_less_one -/
end
end KB.N

namespace KB.N
open PySem L2

/-! ### parts of turned books as data -/
/-- a simple term within words -/
structure SmT (hd : Str → Option Nat) (xs : List Str) (t : Tm) : Prop where
  ok : okT t
  si : simple t = true
  sc : okS hd t xs
  cn : cnt t ≤ 3
  ht : HtLe 2 t
def okP (hd : Str → Option Nat) : Pt → List Str → List Str → Prop
  | .give j t, xs, hs => j ∈ hs ∧ SmT hd xs t
  | .ask f ts j, xs, hs => j ∈ hs ∧ isW f = true ∧ hd f = some ts.length ∧ ts.length ≤ 4 ∧ ∀ t ∈ ts, SmT hd xs t
  | .tell x t p, xs, hs => isW x = true ∧ SmT hd xs t ∧ okP hd p (xs ++ [x]) hs
  | .lett x t p, xs, hs => isW x = true ∧ SmT hd xs t ∧ okP hd p (xs ++ [x]) hs
  | .iff t p q, xs, hs => SmT hd xs t ∧ okP hd p xs hs ∧ okP hd q xs hs
  | .post j x p q, xs, hs => isW j = true ∧ isW x = true ∧ okP hd p (xs ++ [x]) hs ∧ okP hd q xs (hs ++ [j])
/-- the words and the posts' words that a part binds, as they are met -/
def wP : Pt → List Str
  | .give _ _ => []
  | .ask _ _ _ => []
  | .tell x _ p => x :: wP p
  | .lett x _ p => x :: wP p
  | .iff _ p q => wP p ++ wP q
  | .post _ x p q => x :: (wP p ++ wP q)
def jP : Pt → List Str
  | .give _ _ => []
  | .ask _ _ _ => []
  | .tell _ _ p => jP p
  | .lett _ _ p => jP p
  | .iff _ p q => jP p ++ jP q
  | .post j _ p q => j :: (jP p ++ jP q)

/-! ### what the generator of parts has at hand -/
def But3 (tp wl pl : Addr) (H H' : Hp) : Prop := ∀ b o, b ≠ tp → b ≠ wl → b ≠ pl → H b = some o → H' b = some o
theorem But3.refl (tp wl pl : Addr) (H : Hp) : But3 tp wl pl H H := fun _ _ _ _ _ h => h
theorem But3.trans {tp wl pl : Addr} {H H1 H2 : Hp} (a : But3 tp wl pl H H1) (b : But3 tp wl pl H1 H2) : But3 tp wl pl H H2 := fun x o n m l h => b x o n m l (a x o n m l h)
theorem _root_.KB.But1.three {tp wl pl : Addr} {H H' : Hp} (a : But1 tp H H') : But3 tp wl pl H H' := fun x o n _ _ h => a x o n h
abbrev kgE : Key := Sum.inr "errands"
abbrev kgH : Key := Sum.inr "heads"
abbrev kgW : Key := Sum.inr "words"
abbrev kgR : Key := Sum.inr "room"
abbrev kgP : Key := Sum.inr "posts"
abbrev kgS : Key := Sum.inr "straight"
def knT (el hd wl pl : Addr) (room : Int) (st : Bool) : List (Key × V) := [(kgE, .ref el), (kgH, .ref hd), (kgW, .ref wl), (kgR, .int room), (kgP, .ref pl), (kgS, .bl st)]
structure GT (H : Hp) (tp kd wl pl : Addr) (hF : Str → Option Nat) (ws js : List Str) : Prop where
  t : Tp H tp
  w : Wls H wl ws
  p : Wls H pl js
  wn : ws.length ≤ 100
  pn : js.length ≤ 100
  wp : wl ≠ pl
  k : ∃ el hd fs kvs room st, H kd = some (.dK (knT el hd wl pl room st)) ∧ 1 ≤ room ∧ room ≤ 9 ∧ el ≠ wl ∧ el ≠ pl ∧ Wls H el fs ∧ 0 < fs.length ∧ fs.length ≤ 100 ∧ H hd = some (.dK kvs) ∧ ∀ f ∈ fs, ∃ n : Int, valV kvs (Sum.inr f) = some (.int n) ∧ 0 ≤ n ∧ n ≤ 4 ∧ hF f = some n.toNat
section
variable {H H' : Hp} {tp kd wl pl : Addr} {hF : Str → Option Nat} {ws js ws' js' : List Str}
theorem GT.ntk (g : GT H tp kd wl pl hF ws js) {a : Addr} {o : HO} (h : H a = some o) (hn : ∀ xs, o ≠ .lst xs) : a ≠ tp ∧ a ≠ wl ∧ a ≠ pl := by
  obtain ⟨z, hz⟩ := g.t
  exact ⟨ne_of h hz (hn _), ne_of h g.w.1 (hn _), ne_of h g.p.1 (hn _)⟩
theorem GT.tk (g : GT H tp kd wl pl hF ws js) (b : But3 tp wl pl H H') : TK H H' := fun a _ h => by
  obtain ⟨n1, n2, n3⟩ := g.ntk h (fun _ z => nomatch z)
  exact b a _ n1 n2 n3 h
theorem GT.step (g : GT H tp kd wl pl hF ws js) (b : But3 tp wl pl H H') (t : Tp H' tp) (w : Wls H' wl ws') (p : Wls H' pl js') (wn : ws'.length ≤ 100) (pn : js'.length ≤ 100) : GT H' tp kd wl pl hF ws' js' := by
  obtain ⟨el, hd, fs, kvs, room, st, k1, r1, r2, k2, k2', k3, k4, k5, k6, k7⟩ := g.k
  refine ⟨t, w, p, wn, pn, g.wp, el, hd, fs, kvs, room, st, ?_, r1, r2, k2, k2', ⟨b _ _ (wls_tp k3.1 g.t) k2 k2' k3.1, k3.2⟩, k4, k5, ?_, k7⟩
  · obtain ⟨n1, n2, n3⟩ := g.ntk k1 (fun _ z => nomatch z)
    exact b _ _ n1 n2 n3 k1
  · obtain ⟨n1, n2, n3⟩ := g.ntk k6 (fun _ z => nomatch z)
    exact b _ _ n1 n2 n3 k6
theorem GT.one (g : GT H tp kd wl pl hF ws js) (b : But1 tp H H') (t : Tp H' tp) : GT H' tp kd wl pl hF ws js := g.step b.three t (g.w.but b g.t) (g.p.but b g.t) g.wn g.pn
theorem GT.same (g : GT H tp kd wl pl hF ws js) (e : Same H H') : GT H' tp kd wl pl hF ws js := g.one (but_same e) (g.t.same e)
theorem _root_.KB.Wls.three {a : Addr} {xs : List Str} (e : But3 tp wl pl H H') (g : GT H tp kd wl pl hF ws js) (n : a ≠ wl) (m : a ≠ pl) (h : Wls H a xs) : Wls H' a xs := ⟨e _ _ (wls_tp h.1 g.t) n m h.1, h.2⟩
theorem GT.new (g : GT H tp kd wl pl hF ws js) {p : Addr} (h : H p = none) : p ≠ tp ∧ p ≠ wl ∧ p ≠ pl := by
  obtain ⟨z, hz⟩ := g.t
  exact ⟨(ne_of_none hz h).symm, (ne_of_none g.w.1 h).symm, (ne_of_none g.p.1 h).symm⟩
variable {el hd : Addr} {room : Int} {st : Bool}
end
/-- the hand-ons around -/
def Hls (H : Hp) (a : Addr) (hs : List Str) : Prop := H a = some (.lst (hs.map V.str))
end KB.N

namespace KB.N
open PySem L2

section
variable {P : Program} {w : World} {K : PySem.W.Frag} {mg : Str → Option Value} {base : Heap}
/-! ### _law_simple -/
/-- a simple term at a, of at most n terms, within d -/
structure GdS (H : Hp) (a : Addr) (n d : Nat) (hd : Str → Option Nat) (xs : List Str) (t : Tm) : Prop where
  g : Gd H a n d hd xs [] t
  s : simple t = true
theorem GdS.tk {H H' : Hp} {a : Addr} {n d : Nat} {hd : Str → Option Nat} {xs : List Str} {t : Tm} (k : TK H H') (g : GdS H a n d hd xs t) : GdS H' a n d hd xs t := ⟨g.g.tk k, g.s⟩
end
end KB.N

namespace KB.N
open PySem L2

section
variable {P : Program} {w : World} {K : PySem.W.Frag} {mg : Str → Option Value} {base : Heap}
/-! ### _law_some_hand -/
end
end KB.N

namespace KB.N
open PySem L2

theorem GdS.sm {H : Hp} {a : Addr} {hd : Str → Option Nat} {xs : List Str} {t : Tm} (g : GdS H a 3 2 hd xs t) : SmT hd xs t := ⟨g.g.ok, g.s, g.g.sc, g.g.cn, g.g.dp⟩
section
variable {P : Program} {w : World} {K : PySem.W.Frag} {mg : Str → Option Value} {base : Heap}
/-! ### _law_end -/
end
end KB.N

namespace KB.N
open PySem L2

section
variable {P : Program} {w : World} {K : PySem.W.Frag} {mg : Str → Option Value} {base : Heap}
/-! ### _law_part -/
/-- what stands around a part that is to be drawn -/
structure PtIn (H : Hp) (tp kd wl pl ar hl : Addr) (hF : Str → Option Nat) (ws js xs hs : List Str) : Prop where
  g : GT H tp kd wl pl hF ws js
  w : Wls H ar xs
  a1 : ar ≠ wl
  a2 : ar ≠ pl
  h : Hls H hl hs
  h0 : hl ≠ tp
  h1 : hl ≠ wl
  h2 : hl ≠ pl
  ne : hs ≠ []
  wj : ws.length ≤ js.length
  l1 : xs.length + ws.length ≤ 200
  l2 : hs.length + js.length ≤ 200
/-- what is told of a part that was drawn -/
structure PtOut (H H' : Hp) (tp kd wl pl : Addr) (hF : Str → Option Nat) (ws js xs hs : List Str) (n : Nat) (a : Addr) (p : Pt) (ws' js' ls ms : List Str) : Prop where
  b : But3 tp wl pl H H'
  g : GT H' tp kd wl pl hF ws' js'
  wj : ws'.length ≤ js'.length
  e1 : ws = ws' ++ ls.reverse
  e2 : js = js' ++ ms.reverse
  at_ : PAt H' p a
  ok : okP hF p xs hs
  cn : pcnt p ≤ n
  s1 : (wP p).Sublist ls
  s2 : (jP p).Sublist ms
theorem PtIn.step {H H' : Hp} {tp kd wl pl ar hl : Addr} {hF : Str → Option Nat} {ws js ws' js' xs hs : List Str} (I : PtIn H tp kd wl pl ar hl hF ws js xs hs) (b : But3 tp wl pl H H') (g : GT H' tp kd wl pl hF ws' js') (wj : ws'.length ≤ js'.length) (l1 : ws'.length ≤ ws.length) (l2 : js'.length ≤ js.length) : PtIn H' tp kd wl pl ar hl hF ws' js' xs hs := by
  have h1 := I.l1
  have h2 := I.l2
  exact ⟨g, I.w.three b I.g I.a1 I.a2, I.a1, I.a2, b _ _ I.h0 I.h1 I.h2 I.h, I.h0, I.h1, I.h2, I.ne, wj, by omega, by omega⟩
theorem PtIn.one {H H' : Hp} {tp kd wl pl ar hl : Addr} {hF : Str → Option Nat} {ws js xs hs : List Str} (I : PtIn H tp kd wl pl ar hl hF ws js xs hs) (b : But1 tp H H') (t : Tp H' tp) : PtIn H' tp kd wl pl ar hl hF ws js xs hs := I.step b.three (I.g.one b t) I.wj (Nat.le_refl _) (Nat.le_refl _)
theorem PtIn.same {H H' : Hp} {tp kd wl pl ar hl : Addr} {hF : Str → Option Nat} {ws js xs hs : List Str} (I : PtIn H tp kd wl pl ar hl hF ws js xs hs) (s : Same H H') : PtIn H' tp kd wl pl ar hl hF ws js xs hs := I.one (but_same s) (I.g.t.same s)
end
end KB.N

namespace KB.N
open PySem L2

section
variable {P : Program} {w : World} {K : PySem.W.Frag} {mg : Str → Option Value} {base : Heap}
/-! ### _law_turned_body -/
def spTBody : Sp := fun vs H Q _ => ∃ (tp kd wl pl nl : Addr) (hF : Str → Option Nat) (ws js xs : List Str), vs = [.ref tp, .ref kd, .ref nl] ∧ GT H tp kd wl pl hF ws js ∧ Wls H nl xs ∧ nl ≠ wl ∧ nl ≠ pl ∧ ws.length ≤ js.length ∧ xs.length + ws.length ≤ 100 ∧ js.length ≤ 100 ∧
  ∀ a p H' ws' js' ls ms, PtOut H H' tp kd wl pl hF ws js xs ["home"] 13 a p ws' js' ls ms → Q (.ref a) H'
theorem PtOut.le {H H' : Hp} {tp kd wl pl : Addr} {hF : Str → Option Nat} {ws js xs hs : List Str} {n m : Nat} {a : Addr} {p : Pt} {ws' js' ls ms : List Str} (h : n ≤ m) (O : PtOut H H' tp kd wl pl hF ws js xs hs n a p ws' js' ls ms) : PtOut H H' tp kd wl pl hF ws js xs hs m a p ws' js' ls ms :=
  ⟨O.b, O.g, O.wj, O.e1, O.e2, O.at_, O.ok, Nat.le_trans O.cn h, O.s1, O.s2⟩
theorem PtOut.pre {H0 H H' : Hp} {tp kd wl pl : Addr} {hF : Str → Option Nat} {ws js xs hs : List Str} {n : Nat} {a : Addr} {p : Pt} {ws' js' ls ms : List Str} (b : But3 tp wl pl H0 H) (O : PtOut H H' tp kd wl pl hF ws js xs hs n a p ws' js' ls ms) : PtOut H0 H' tp kd wl pl hF ws js xs hs n a p ws' js' ls ms :=
  ⟨b.trans O.b, O.g, O.wj, O.e1, O.e2, O.at_, O.ok, O.cn, O.s1, O.s2⟩
end
end KB.N

namespace KB.N
open PySem L2

/-! ### the words that are drawn -/
section
variable {P : Program} {w : World} {K : PySem.W.Frag} {mg : Str → Option Value} {base : Heap}
end
end KB.N

namespace KB.N
open PySem L2

/-! ### turned books -/
abbrev TEr := Str × List Str × Pt
def TErV (H : Hp) (e : TEr) (v : V) : Prop := ∃ q r b, v = .ref q ∧ H q = some (.tup [.str e.1, .ref r, .ref b]) ∧ H r = some (.tup (e.2.1.map V.str)) ∧ PAt H e.2.2 b
theorem TErV.tk {H H' : Hp} (t : TK H H') {e : TEr} {v : V} (h : TErV H e v) : TErV H' e v :=
  let ⟨q, r, b, e1, h1, h2, h3⟩ := h; ⟨q, r, b, e1, t _ _ h1, t _ _ h2, h3.tk t⟩
def TBkAt (H : Hp) (es : List TEr) (vs : List V) (p : Addr) : Prop := H p = some (.tup vs) ∧ All2 (TErV H) es vs
structure GdTE (hF : Str → Option Nat) (e : TEr) : Prop where
  w : isW e.1 = true
  ws : ∀ x ∈ e.2.1, isW x = true
  n4 : e.2.1.length ≤ 4
  ok : okP hF e.2.2 e.2.1 ["home"]
  cn : pcnt e.2.2 ≤ 13
  hf : hF e.1 = some e.2.1.length
  un : (e.2.1 ++ wP e.2.2).Nodup
  uj : (jP e.2.2).Nodup
structure GdTB (es : List TEr) : Prop where
  len : 1 ≤ es.length ∧ es.length ≤ 6
  nd : (es.map (·.1)).Nodup
  er : ∃ hF : Str → Option Nat, (∀ e ∈ es, GdTE hF e) ∧ ∀ f n, hF f = some n → f ∈ es.map (·.1)
section
variable {P : Program} {w : World} {K : PySem.W.Frag} {mg : Str → Option Value} {base : Heap}
/-! ### _law_turned_book -/
def spTBook (K : PySem.W.Frag) : Sp := fun vs H Q _ => ∃ (sc : Addr) (ns : List Int) (start : Int) (st : Bool), vs = [.ref sc, .int start, .bl st] ∧ SqL K H sc (ns.map V.int) ∧ 0 ≤ start ∧ start ≤ 100 ∧ ∀ p es us H', Same H H' → TBkAt H' es us p → GdTB es → Q (.ref p) H'
end
end KB.N

namespace KB.N
open PySem L2 HT
theorem layAll : ∀ {ds : List PyData}, (∀ d ∈ ds, d.canLay0 = true) → PySem.PyData.canLayAll0 ds = true
  | [], _ => rfl
  | d :: r, h => by
    show (d.canLay0 && PySem.PyData.canLayAll0 r) = true
    rw [h d List.mem_cons_self, layAll fun x hx => h x (List.mem_cons_of_mem _ hx)]
    rfl
theorem depthAll_le {m : Nat} : ∀ {ds : List PyData}, (∀ d ∈ ds, d.depth ≤ m) → PySem.PyData.depthAll ds ≤ m
  | [], _ => Nat.zero_le _
  | d :: r, h => by
    show max d.depth (PySem.PyData.depthAll r) ≤ m
    have h1 := h d List.mem_cons_self
    have h2 := depthAll_le fun x hx => h x (List.mem_cons_of_mem _ hx)
    omega
theorem depth_tup {m : Nat} {ds : List PyData} (h : ∀ d ∈ ds, d.depth ≤ m) : (PyData.tuple ds).depth ≤ m + 1 := by
  show PySem.PyData.depthAll ds + 1 ≤ m + 1
  have := depthAll_le h
  omega
theorem lay_lit {x : Str} (h : PySem.PyData.strOk x = true) : (PyData.str x).canLay0 = true := h
theorem lay_str {x : Str} (h : isW x = true) : (PyData.str x).canLay0 = true := isW_ok h
/-! ### terms as data -/
def pdH : Hd → List PyData → PyData
  | .num z, _ => .tuple [.str "number", .int z]
  | .nam x, _ => .tuple [.str "name", .str x]
  | .plus, ds => .tuple (.str "plus" :: ds)
  | .less, ds => .tuple (.str "less" :: ds)
  | .tell, ds => .tuple (.str "tell" :: ds)
  | .lett x, ds => .tuple (.str "let" :: .str x :: ds)
  | .iff, ds => .tuple (.str "if" :: ds)
  | .ask f, ds => .tuple [.str "ask", .str f, .tuple ds]
def pd : Tm → PyData
  | .mk h _ k => pdH h (List.ofFn fun i => pd (k i))
theorem dp_fn {K : PySem.W.Frag} {H : Hp} : ∀ {n : Nat} {ys : _root_.Fin n → Addr} {ds : _root_.Fin n → PyData}, (∀ i, Dp K H (.ref (ys i)) (ds i)) → DpAll K H (Rfs ys) (List.ofFn ds)
  | 0, _, _, _ => .nil
  | n + 1, ys, ds, h => by
    unfold Rfs
    rw [List.ofFn_succ, List.ofFn_succ]
    exact .cons (h 0) (dp_fn (ys := fun i => ys i.succ) (ds := fun i => ds i.succ) fun i => h i.succ)
theorem dp_at {K : PySem.W.Frag} {H : Hp} : ∀ {t : Tm} {a : Addr}, At H t a → Dp K H (.ref a) (pd t) := by
  intro t
  induction t with
  | mk h n k ih =>
    rintro a ⟨ys, l, r⟩
    have d : DpAll K H (Rfs ys) (List.ofFn fun i => pd (k i)) := dp_fn fun i => ih i (r i)
    show Dp K H (.ref a) (pdH h (List.ofFn fun i => pd (k i)))
    generalize (List.ofFn fun i => pd (k i)) = ds at d
    cases h with
    | num z => exact .tup (SqT.of l.2) (.cons (.str _) (.cons (.int _) .nil))
    | nam z => exact .tup (SqT.of l.2) (.cons (.str _) (.cons (.str _) .nil))
    | lett x => exact .tup (SqT.of l.2) (.cons (.str _) (.cons (.str _) d))
    | ask f =>
      obtain ⟨_, p, h1, h2⟩ := l
      exact .tup (SqT.of h1) (.cons (.str _) (.cons (.str _) (.cons (.tup (SqT.of h2) d) .nil)))
    | _ => exact .tup (SqT.of l.2) (.cons (.str _) d)
theorem lay_pdH {h : Hd} {ds : List PyData} (o : okH h) (l : ∀ d ∈ ds, d.canLay0 = true) : (pdH h ds).canLay0 = true := by
  have la := layAll l
  cases h with
  | num z =>
    refine layAll fun d hd => ?_
    rcases List.mem_cons.mp hd with y | y
    · rw [y]
      exact lay_lit (by decide +kernel)
    · rw [List.mem_singleton.mp y]
      rfl
  | nam x =>
    refine layAll fun d hd => ?_
    rcases List.mem_cons.mp hd with z | z
    · rw [z]
      exact lay_lit (by decide +kernel)
    · rw [List.mem_singleton.mp z]
      exact lay_str o
  | lett x =>
    refine layAll fun d hd => ?_
    rcases List.mem_cons.mp hd with z | z
    · rw [z]
      exact lay_lit (by decide +kernel)
    · rcases List.mem_cons.mp z with z | z
      · rw [z]
        exact lay_str o
      · exact l d z
  | ask f =>
    refine layAll fun d hd => ?_
    rcases List.mem_cons.mp hd with z | z
    · rw [z]
      exact lay_lit (by decide +kernel)
    · rcases List.mem_cons.mp z with z | z
      · rw [z]
        exact lay_str o
      · rw [List.mem_singleton.mp z]
        exact la
  | _ =>
    refine layAll fun d hd => ?_
    rcases List.mem_cons.mp hd with z | z
    · rw [z]
      exact lay_lit (by decide +kernel)
    · exact l d z
theorem lay_pd : ∀ {t : Tm}, okT t → (pd t).canLay0 = true := by
  intro t
  induction t with
  | mk h n k ih =>
    rintro ⟨o, r⟩
    refine lay_pdH o fun d hd => ?_
    obtain ⟨i, rfl⟩ := List.mem_ofFn.mp hd
    exact ih i (r i)
theorem depth_pdH {h : Hd} {m : Nat} {ds : List PyData} (l : ∀ d ∈ ds, d.depth ≤ m) : (pdH h ds).depth ≤ m + 2 := by
  cases h with
  | num z => exact Nat.le_trans (depth_tup (m := 0) fun d hd => by
      rcases List.mem_cons.mp hd with y | y
      · rw [y]
        exact Nat.le_refl 0
      · rw [List.mem_singleton.mp y]
        exact Nat.le_refl 0) (by omega)
  | nam x => exact Nat.le_trans (depth_tup (m := 0) fun d hd => by
      rcases List.mem_cons.mp hd with z | z
      · rw [z]
        exact Nat.le_refl 0
      · rw [List.mem_singleton.mp z]
        exact Nat.le_refl 0) (by omega)
  | lett x =>
    refine Nat.le_trans (depth_tup (m := m) fun d hd => ?_) (by omega)
    rcases List.mem_cons.mp hd with z | z
    · rw [z]
      exact Nat.zero_le _
    · rcases List.mem_cons.mp z with z | z
      · rw [z]
        exact Nat.zero_le _
      · exact l d z
  | ask f =>
    refine depth_tup (m := m + 1) fun d hd => ?_
    rcases List.mem_cons.mp hd with z | z
    · rw [z]
      exact Nat.zero_le _
    · rcases List.mem_cons.mp z with z | z
      · rw [z]
        exact Nat.zero_le _
      · rw [List.mem_singleton.mp z]
        exact depth_tup l
  | _ =>
    refine Nat.le_trans (depth_tup (m := m) fun d hd => ?_) (by omega)
    rcases List.mem_cons.mp hd with z | z
    · rw [z]
      exact Nat.zero_le _
    · exact l d z
theorem depth_pd : ∀ {n : Nat} {t : Tm}, HtLe n t → (pd t).depth ≤ 2 * n
  | 0, _, h => h.elim
  | n + 1, .mk h m k, r => by
    refine Nat.le_trans (depth_pdH (h := h) (m := 2 * n) fun d hd => ?_) (by omega)
    obtain ⟨i, rfl⟩ := List.mem_ofFn.mp hd
    exact depth_pd (r i)
theorem eqv_self {d : PyData} (h : SeqAt.shaped d = true) : PyData.eqv d d = true := SeqAt.eqv_refl d (SeqAt.canLay_of_shaped h)
/-! ### parts of turned books as data -/
def pdP : Pt → PyData
  | .give j t => .tuple [.str "give", .str j, pd t]
  | .ask f ts j => .tuple [.str "ask", .str f, .tuple (ts.map pd), .str j]
  | .tell x t p => .tuple [.str "tell", .str x, pd t, pdP p]
  | .lett x t p => .tuple [.str "let", .str x, pd t, pdP p]
  | .iff t p q => .tuple [.str "if", pd t, pdP p, pdP q]
  | .post j x p q => .tuple [.str "post", .str j, .str x, pdP p, pdP q]
theorem dp_refs {K : PySem.W.Frag} {H : Hp} : ∀ {ts : List Tm} {xs : List V}, All2 (RefV H) ts xs → DpAll K H xs (ts.map pd)
  | [], [], _ => .nil
  | _ :: _, _ :: _, ⟨⟨b, e, h⟩, r⟩ => by
    rw [e]
    exact .cons (dp_at h) (dp_refs r)
  | [], _ :: _, h => h.elim
  | _ :: _, [], h => h.elim
theorem dp_pat {K : PySem.W.Frag} {H : Hp} : ∀ {p : Pt} {a : Addr}, PAt H p a → Dp K H (.ref a) (pdP p)
  | .give j t, a, ⟨b, h1, h2⟩ => .tup (SqT.of h1) (.cons (.str _) (.cons (.str _) (.cons (dp_at h2) .nil)))
  | .ask f ts j, a, ⟨q, vs, h1, h2, h3⟩ => .tup (SqT.of h1) (.cons (.str _) (.cons (.str _) (.cons (.tup (SqT.of h2) (dp_refs h3)) (.cons (.str _) .nil))))
  | .tell x t p, a, ⟨b, c, h1, h2, h3⟩ => .tup (SqT.of h1) (.cons (.str _) (.cons (.str _) (.cons (dp_at h2) (.cons (dp_pat h3) .nil))))
  | .lett x t p, a, ⟨b, c, h1, h2, h3⟩ => .tup (SqT.of h1) (.cons (.str _) (.cons (.str _) (.cons (dp_at h2) (.cons (dp_pat h3) .nil))))
  | .iff t p q, a, ⟨b, c, d, h1, h2, h3, h4⟩ => .tup (SqT.of h1) (.cons (.str _) (.cons (dp_at h2) (.cons (dp_pat h3) (.cons (dp_pat h4) .nil))))
  | .post j x p q, a, ⟨c, d, h1, h2, h3⟩ => .tup (SqT.of h1) (.cons (.str _) (.cons (.str _) (.cons (.str _) (.cons (dp_pat h2) (.cons (dp_pat h3) .nil)))))
/-- a simple term, good -/
structure STm (t : Tm) : Prop where
  ok : okT t
  si : simple t = true
  cn : cnt t ≤ 200
  ht : HtLe 64 t
theorem SmT.st {hd : Str → Option Nat} {xs : List Str} {t : Tm} (h : SmT hd xs t) : STm t := ⟨h.ok, h.si, Nat.le_trans h.cn (by decide), h.ht.le (by decide)⟩
/-- a part whose words are words -/
def kP : Pt → Prop
  | .give j t => PySem.PyData.strOk j = true ∧ STm t
  | .ask f ts j => PySem.PyData.strOk j = true ∧ isV f = true ∧ ts.length ≤ 4 ∧ ∀ t ∈ ts, STm t
  | .tell x t p => isW x = true ∧ STm t ∧ kP p
  | .lett x t p => isW x = true ∧ STm t ∧ kP p
  | .iff t p q => STm t ∧ kP p ∧ kP q
  | .post j x p q => isW j = true ∧ isW x = true ∧ kP p ∧ kP q
theorem STm.lay {t : Tm} (h : STm t) : (pd t).canLay0 = true := lay_pd h.ok
theorem lay_cons {d : PyData} {ds : List PyData} (h1 : d.canLay0 = true) (h2 : PySem.PyData.canLayAll0 ds = true) : PySem.PyData.canLayAll0 (d :: ds) = true := Bool.and_eq_true_iff.mpr ⟨h1, h2⟩
theorem lay_strV {x : Str} (h : isV x = true) : (PyData.str x).canLay0 = true := isV_ok h
theorem lay_pdP : ∀ {p : Pt}, kP p → (pdP p).canLay0 = true
  | .give j t, h => lay_cons (lay_lit (by decide +kernel)) (lay_cons (lay_lit h.1) (lay_cons h.2.lay rfl))
  | .ask f ts j, h => lay_cons (lay_lit (by decide +kernel)) (lay_cons (lay_strV h.2.1) (lay_cons (layAll (ds := ts.map pd) fun d hd => by
      obtain ⟨t, ht, rfl⟩ := List.mem_map.mp hd
      exact (h.2.2.2 t ht).lay) (lay_cons (lay_lit h.1) rfl)))
  | .tell x t p, h => lay_cons (lay_lit (by decide +kernel)) (lay_cons (lay_str h.1) (lay_cons h.2.1.lay (lay_cons (lay_pdP h.2.2) rfl)))
  | .lett x t p, h => lay_cons (lay_lit (by decide +kernel)) (lay_cons (lay_str h.1) (lay_cons h.2.1.lay (lay_cons (lay_pdP h.2.2) rfl)))
  | .iff t p q, h => lay_cons (lay_lit (by decide +kernel)) (lay_cons h.1.lay (lay_cons (lay_pdP h.2.1) (lay_cons (lay_pdP h.2.2) rfl)))
  | .post j x p q, h => lay_cons (lay_lit (by decide +kernel)) (lay_cons (lay_str h.1) (lay_cons (lay_str h.2.1) (lay_cons (lay_pdP h.2.2.1) (lay_cons (lay_pdP h.2.2.2) rfl))))
theorem dep_str {m : Nat} {z : Str} : (PyData.str z).depth ≤ m := Nat.zero_le m
theorem SmT.dep {hd : Str → Option Nat} {xs : List Str} {t : Tm} (h : SmT hd xs t) : (pd t).depth ≤ 4 := depth_pd h.ht
theorem depth_okP {hd : Str → Option Nat} : ∀ {p : Pt} {xs hs : List Str}, okP hd p xs hs → (pdP p).depth ≤ pcnt p + 5
  | .give j t, _, _, h => depth_tup (m := 5) (by
      intro d hd
      simp only [List.mem_cons, List.not_mem_nil, or_false] at hd
      rcases hd with z | z | z <;> subst z
      · exact dep_str
      · exact dep_str
      · exact Nat.le_trans h.2.dep (by decide))
  | .ask f ts j, _, _, h => depth_tup (m := 5) (by
      intro d hd
      simp only [List.mem_cons, List.not_mem_nil, or_false] at hd
      rcases hd with z | z | z | z <;> subst z
      · exact dep_str
      · exact dep_str
      · refine depth_tup (m := 4) fun d hd => ?_
        obtain ⟨t, ht, rfl⟩ := List.mem_map.mp hd
        exact (h.2.2.2.2 t ht).dep
      · exact dep_str)
  | .tell x t p, _, _, h => by
      have ih := depth_okP h.2.2
      refine Nat.le_trans (depth_tup (m := pcnt p + 5) ?_) (by show pcnt p + 5 + 1 ≤ 1 + pcnt p + 5; omega)
      intro d hd
      simp only [List.mem_cons, List.not_mem_nil, or_false] at hd
      rcases hd with z | z | z | z <;> subst z
      · exact dep_str
      · exact dep_str
      · exact Nat.le_trans h.2.1.dep (by omega)
      · exact ih
  | .lett x t p, _, _, h => by
      have ih := depth_okP h.2.2
      refine Nat.le_trans (depth_tup (m := pcnt p + 5) ?_) (by show pcnt p + 5 + 1 ≤ 1 + pcnt p + 5; omega)
      intro d hd
      simp only [List.mem_cons, List.not_mem_nil, or_false] at hd
      rcases hd with z | z | z | z <;> subst z
      · exact dep_str
      · exact dep_str
      · exact Nat.le_trans h.2.1.dep (by omega)
      · exact ih
  | .iff t p q, _, _, h => by
      have ih1 := depth_okP h.2.1
      have ih2 := depth_okP h.2.2
      refine Nat.le_trans (depth_tup (m := pcnt p + pcnt q + 5) ?_) (by show pcnt p + pcnt q + 5 + 1 ≤ 1 + pcnt p + pcnt q + 5; omega)
      intro d hd
      simp only [List.mem_cons, List.not_mem_nil, or_false] at hd
      rcases hd with z | z | z | z <;> subst z
      · exact dep_str
      · exact Nat.le_trans h.1.dep (by omega)
      · omega
      · omega
  | .post j x p q, _, _, h => by
      have ih1 := depth_okP h.2.2.1
      have ih2 := depth_okP h.2.2.2
      refine Nat.le_trans (depth_tup (m := pcnt p + pcnt q + 5) ?_) (by show pcnt p + pcnt q + 5 + 1 ≤ 1 + pcnt p + pcnt q + 5; omega)
      intro d hd
      simp only [List.mem_cons, List.not_mem_nil, or_false] at hd
      rcases hd with z | z | z | z | z <;> subst z
      · exact dep_str
      · exact dep_str
      · exact dep_str
      · omega
      · omega
/-! ### all parts and terms of a part, counted -/
def ncnt : Pt → Nat
  | .give _ t => 1 + cnt t
  | .ask _ ts _ => 1 + cnts ts
  | .tell _ t p => 1 + cnt t + ncnt p
  | .lett _ t p => 1 + cnt t + ncnt p
  | .iff t p q => 1 + cnt t + ncnt p + ncnt q
  | .post _ _ p q => 1 + ncnt p + ncnt q
theorem cnts_le {hd : Str → Option Nat} {xs : List Str} {ts : List Tm} (h : ∀ t ∈ ts, SmT hd xs t) : cnts ts ≤ 3 * ts.length := by
  induction ts with
  | nil => exact Nat.le_refl _
  | cons t r ih =>
    have h1 := (h t List.mem_cons_self).cn
    have h2 := ih fun u hu => h u (List.mem_cons_of_mem _ hu)
    rw [cnts_cons, List.length_cons]
    omega
theorem ncnt_le {hd : Str → Option Nat} : ∀ {p : Pt} {xs hs : List Str}, okP hd p xs hs → ncnt p ≤ 13 * pcnt p
  | .give j t, _, _, h => by
    have := h.2.cn
    show 1 + cnt t ≤ 13 * 1
    omega
  | .ask f ts j, _, _, h => by
    have := cnts_le h.2.2.2.2
    have := h.2.2.2.1
    show 1 + cnts ts ≤ 13 * 1
    omega
  | .tell x t p, _, _, h => by
    have := h.2.1.cn
    have := ncnt_le h.2.2
    show 1 + cnt t + ncnt p ≤ 13 * (1 + pcnt p)
    omega
  | .lett x t p, _, _, h => by
    have := h.2.1.cn
    have := ncnt_le h.2.2
    show 1 + cnt t + ncnt p ≤ 13 * (1 + pcnt p)
    omega
  | .iff t p q, _, _, h => by
    have := h.1.cn
    have := ncnt_le h.2.1
    have := ncnt_le h.2.2
    show 1 + cnt t + ncnt p + ncnt q ≤ 13 * (1 + pcnt p + pcnt q)
    omega
  | .post j x p q, _, _, h => by
    have := ncnt_le h.2.2.1
    have := ncnt_le h.2.2.2
    show 1 + ncnt p + ncnt q ≤ 13 * (1 + pcnt p + pcnt q)
    omega
end KB.N

namespace HT
open PySem PySem.Spec PyProof.Rows
section
variable {prog : Program} {w : World} {A : Around} {E : Value → Shared → Prop} {s : Shared}
end
end HT

namespace KB.N
open PySem PySem.Spec PyProof.Rows L2
end KB.N

namespace KB.N
open PySem L2

/-! ### trees, whatever they are made of -/
namespace Tre
variable {N : Type} (R : Tre N)
end Tre
section
variable {P : Program} {w : World} {K : PySem.W.Frag} {mg : Str → Option Value} {base : Heap}
/-! ### met -/
end
end KB.N

namespace KB.N
open PySem L2

def termsP : Pt → List Tm
  | .give _ t => [t]
  | .ask _ ts _ => ts
  | .tell _ t _ => [t]
  | .lett _ t _ => [t]
  | .iff t _ _ => [t]
  | .post _ _ _ _ => []
/-! ### turned parts as a tree -/
/-! ### turned parts and their terms as a tree -/
abbrev Nd := Pt ⊕ Tm
def plT : Tm → List (List Int × Nd)
  | .mk h n k => ([], .inr (.mk h n k)) :: (List.ofFn fun i : Fin n => (plT (k i)).map (fun e => ((i.val : Int) :: e.1, e.2))).flatten
def plTs : Nat → List Tm → List (List Int × Nd)
  | _, [] => []
  | j, t :: ts => (plT t).map (fun e => ((j : Int) :: e.1, e.2)) ++ plTs (j + 1) ts
theorem plT_fn : ∀ {n : Nat} {k : Fin n → Tm} {j : Nat}, (List.ofFn fun i : Fin n => (plT (k i)).map (fun e => (((j + i.val : Nat) : Int) :: e.1, e.2))).flatten = plTs j (List.ofFn k)
  | 0, _, _ => rfl
  | n + 1, k, j => by
    rw [List.ofFn_succ, List.ofFn_succ, List.flatten_cons]
    show _ = (plT (k 0)).map (fun e => ((j : Int) :: e.1, e.2)) ++ plTs (j + 1) _
    rw [← plT_fn (k := fun i => k i.succ) (j := j + 1)]
    congr 3
    · funext i
      have e : j + (i.succ).val = j + 1 + i.val := by
        rw [Fin.val_succ]
        omega
      rw [e]
theorem cut3 {x y z : V} {r : List V} : cutV (x :: y :: z :: r) (some 3) none = r := cut_from (i := 3) (by decide) (Nat.succ_le_succ len2)
theorem len3 {α : Type} {x y z : α} {r : List α} : 3 ≤ (x :: y :: z :: r).length := Nat.succ_le_succ len2
theorem simple_mk {h : Hd} {n : Nat} {k : Fin n → Tm} (e : simple (.mk h n k) = true) : flatHd h = true ∧ ∀ i, simple (k i) = true := by
  have e' : (flatHd h && (List.ofFn fun i => simple (k i)).all id) = true := e
  rw [Bool.and_eq_true, List.all_eq_true] at e'
  exact ⟨e'.1, fun i => e'.2 _ (List.mem_ofFn.mpr ⟨i, rfl⟩)⟩
def heads : List V := [.str "number", .str "name", .str "plus", .str "less"]
/-- how a part begins -/
def hsP : Pt → Str
  | .give _ _ => "give" | .ask _ _ _ => "ask" | .tell _ _ _ => "tell" | .lett _ _ _ => "let" | .iff _ _ _ => "if" | .post _ _ _ _ => "post"
theorem _root_.KB.PAt.head {H : Hp} {p : Pt} {a : Addr} (h : PAt H p a) : ∃ r, H a = some (.tup (.str (hsP p) :: r)) := by
  cases p with
  | give j t => obtain ⟨b, h1, _⟩ := h; exact ⟨_, h1⟩
  | ask f ts j => obtain ⟨b, vs, h1, _⟩ := h; exact ⟨_, h1⟩
  | tell x t p => obtain ⟨b, c, h1, _⟩ := h; exact ⟨_, h1⟩
  | lett x t p => obtain ⟨b, c, h1, _⟩ := h; exact ⟨_, h1⟩
  | iff t p q => obtain ⟨b, c, d, h1, _⟩ := h; exact ⟨_, h1⟩
  | post j x p q => obtain ⟨c, d, h1, _⟩ := h; exact ⟨_, h1⟩
section
variable {P : Program} {w : World} {K : PySem.W.Frag} {mg : Str → Option Value} {base : Heap}
/-! ### terms_in -/
/-! ### rest_of -/
/-! ### turned_parts -/
end
end KB.N

namespace KB.N
open PySem L2 PyProof.Rows
open PySem.AutoSeq1 (wpAny_loadPart')

/-! ### enumerate(tuple): the layer has it over lists alone -/
section
variable {prog : Program} {w : World} {A : Around} {E : Value → Shared → Prop} {s : Shared}
end
end KB.N
namespace KB.N
open PySem L2
end KB.N

namespace KB.N
open PySem L2 HT

def innP : Pt → List Pt
  | .give _ _ => []
  | .ask _ _ _ => []
  | .tell _ _ q => [q]
  | .lett _ _ q => [q]
  | .iff _ q u => [q, u]
  | .post _ _ q u => [q, u]
theorem pcnt_inn (p : Pt) : pcnt p = 1 + ((innP p).map pcnt).sum := by
  cases p <;> simp only [pcnt, innP, List.map, List.sum_cons, List.sum_nil] <;> omega
theorem mem_sum {ps : List Pt} {p : Pt} (h : p ∈ ps) : pcnt p ≤ (ps.map pcnt).sum := by
  induction ps with
  | nil => cases h
  | cons a r ih =>
    rw [List.map_cons, List.sum_cons]
    rcases List.mem_cons.mp h with z | z
    · subst z
      omega
    · have := ih z
      omega
theorem take_sum (ps : List Pt) (i : Nat) : ((ps.take i).map pcnt).sum ≤ (ps.map pcnt).sum := by
  have e : (ps.map pcnt).sum = ((ps.take i).map pcnt).sum + ((ps.drop i).map pcnt).sum := by
    rw [← List.sum_append, ← List.map_append, List.take_append_drop]
  omega
def PVr (H : Hp) (p : Pt) (v : V) : Prop := ∃ b, v = .ref b ∧ PAt H p b
/-! ### all parts of a part, with their places, terms counted -/
/-- a pair of a place and what stands there -/
def EnP (H : Hp) (pre : List V) (e : List Int × Pt) (v : V) : Prop := ∃ q r b, v = .ref q ∧ H q = some (.tup [.ref r, .ref b]) ∧ H r = some (.tup (pre ++ e.1.map V.int)) ∧ PAt H e.2 b
theorem EnP.tk {H H' : Hp} (k : TK H H') {pre : List V} {e : List Int × Pt} {v : V} (h : EnP H pre e v) : EnP H' pre e v := let ⟨q, r, b, h1, h2, h3, h4⟩ := h; ⟨q, r, b, h1, k _ _ h2, k _ _ h3, PAt.tk k h4⟩
theorem EnP.deep {H : Hp} {pre : List V} {i : Int} {e : List Int × Pt} {v : V} (h : EnP H (pre ++ [.int i]) e v) : EnP H pre (i :: e.1, e.2) v := by
  obtain ⟨q, r, b, e1, h1, h2, h3⟩ := h
  refine ⟨q, r, b, e1, h1, ?_, h3⟩
  rw [h2, List.append_assoc]
  rfl
section
variable {P : Program} {w : World} {K : PySem.W.Frag} {mg : Str → Option Value} {base : Heap}
/-! ### _law_inner -/
def spInn : Sp := fun vs H Q _ => ∃ (a : Addr) (p : Pt), vs = [.ref a] ∧ PAt H p a ∧ ∀ r H' us, Same H H' → H' r = some (.tup us) → All2 (PVr H') (innP p) us → Q (.ref r) H'
abbrev s_law_inner : Stmt := top 33
theorem scLinner : FnScope ["part"] ["part"] (defScope s_law_inner) := ⟨rfl, rfl, rfl, by decide +kernel, rfl, by decide +kernel, by decide +kernel⟩
theorem ok_inn (T : Txt K mg) {f : Addr} {fd : FuncData} (F : Fun K "_law_inner" "_law_inner" s_law_inner f fd) : FnOk P w K mg base CX0 1 f fd ["part"] spInn := by
  refine F.ok scLinner (fun vs H Q E h => ?_) (fun cdv A outer s H vs Q E hr h => ?_)
  · obtain ⟨a, p, rfl, _⟩ := h
    rfl
  obtain ⟨a, p, rfl, hA, q⟩ := h
  refine ⟨_, (pss_cons (ps_if (pt_cmpR op_in_seq (pe_ix ix_tup (pv 0) pe_int (fun _ _ => rfl)) (pe_tup (pa_cons pe_str (pa_cons pe_str pa_nil))) rfl) (pss_one (ps_ret (pe_tup pa_nil))) pss_nil)
    (pss_one (ps_ret (pe_slice sl_tupA (pv 0) (po_some (pe_op op_add pe_int (pe_callTy call_int1 (by rfl) T.m_int (by decide +kernel) (pa_cons (pe_cmpR op_ne (pe_ix ix_tup (pv 0) pe_int (fun _ _ => rfl)) pe_str (nomark _)) pa_nil)))) po_none)))), ?_⟩
  cases p with
  | give j s =>
    obtain ⟨b, h1, h2⟩ := hA
    refine ⟨_, rfl, a, _, _, _, rfl, rfl, SqT.of h1, at0, sz (by show 2 ≤ 100000; decide), fun t ht => ?_⟩
    have s1 := same_new ht (.tup [.str "give", .str "ask"])
    exact ⟨t, _, rfl, .inr (SqT.of upd_same), rfl, rfl, _, rfl, itT rfl ⟨sz (by decide), fun p hp => q p _ [] (s1.trans (same_new hp _)) upd_same trivial⟩⟩
  | ask g ts j =>
    obtain ⟨b, vs, h1, h2, h3⟩ := hA
    refine ⟨_, rfl, a, _, _, _, rfl, rfl, SqT.of h1, at0, sz (by show 2 ≤ 100000; decide), fun t ht => ?_⟩
    have s1 := same_new ht (.tup [.str "give", .str "ask"])
    exact ⟨t, _, rfl, .inr (SqT.of upd_same), rfl, rfl, _, rfl, itT rfl ⟨sz (by decide), fun p hp => q p _ [] (s1.trans (same_new hp _)) upd_same trivial⟩⟩
  | tell x s p =>
    obtain ⟨b, c, h1, h2, h3⟩ := hA
    refine ⟨_, rfl, a, _, _, _, rfl, rfl, SqT.of h1, at0, sz (by show 2 ≤ 100000; decide), fun t ht => ?_⟩
    have s1 := same_new ht (.tup [.str "give", .str "ask"])
    refine ⟨t, _, rfl, .inr (SqT.of upd_same), rfl, rfl, _, rfl, itF rfl ⟨_, rfl, _, rfl, a, _, _, _, rfl, rfl, SqT.of (s1 _ _ h1), at0, rfl, .inr ⟨_, rfl, _, _, rfl, rfl, _, rfl, a, _, rfl, SqT.of (s1 _ _ h1), ?_, ?_⟩⟩⟩
    · exact fun z => absurd z (not_whole (i := 3) (by decide) len3)
    · intro _ p hp
      have s2 := s1.trans (same_new hp (.tup (cutV [V.str "tell", .str x, .ref b, .ref c] (some 3) none)))
      refine q p _ [.ref c] s2 ?_ ⟨⟨c, rfl, PAt.tk (tk_same s2) h3⟩, trivial⟩
      rw [upd_same]
      exact congrArg (fun z => some (HO.tup z)) cut3
  | lett x s p =>
    obtain ⟨b, c, h1, h2, h3⟩ := hA
    refine ⟨_, rfl, a, _, _, _, rfl, rfl, SqT.of h1, at0, sz (by show 2 ≤ 100000; decide), fun t ht => ?_⟩
    have s1 := same_new ht (.tup [.str "give", .str "ask"])
    refine ⟨t, _, rfl, .inr (SqT.of upd_same), rfl, rfl, _, rfl, itF rfl ⟨_, rfl, _, rfl, a, _, _, _, rfl, rfl, SqT.of (s1 _ _ h1), at0, rfl, .inr ⟨_, rfl, _, _, rfl, rfl, _, rfl, a, _, rfl, SqT.of (s1 _ _ h1), ?_, ?_⟩⟩⟩
    · exact fun z => absurd z (not_whole (i := 3) (by decide) len3)
    · intro _ p hp
      have s2 := s1.trans (same_new hp (.tup (cutV [V.str "let", .str x, .ref b, .ref c] (some 3) none)))
      refine q p _ [.ref c] s2 ?_ ⟨⟨c, rfl, PAt.tk (tk_same s2) h3⟩, trivial⟩
      rw [upd_same]
      exact congrArg (fun z => some (HO.tup z)) cut3
  | post j x p p2 =>
    obtain ⟨c, d, h1, h2, h3⟩ := hA
    refine ⟨_, rfl, a, _, _, _, rfl, rfl, SqT.of h1, at0, sz (by show 2 ≤ 100000; decide), fun t ht => ?_⟩
    have s1 := same_new ht (.tup [.str "give", .str "ask"])
    refine ⟨t, _, rfl, .inr (SqT.of upd_same), rfl, rfl, _, rfl, itF rfl ⟨_, rfl, _, rfl, a, _, _, _, rfl, rfl, SqT.of (s1 _ _ h1), at0, rfl, .inr ⟨_, rfl, _, _, rfl, rfl, _, rfl, a, _, rfl, SqT.of (s1 _ _ h1), ?_, ?_⟩⟩⟩
    · exact fun z => absurd z (not_whole (i := 3) (by decide) len3)
    · intro _ p hp
      have s2 := s1.trans (same_new hp (.tup (cutV [V.str "post", .str j, .str x, .ref c, .ref d] (some 3) none)))
      refine q p _ [.ref c, .ref d] s2 ?_ ⟨⟨c, rfl, PAt.tk (tk_same s2) h2⟩, ⟨d, rfl, PAt.tk (tk_same s2) h3⟩, trivial⟩
      rw [upd_same]
      exact congrArg (fun z => some (HO.tup z)) cut3
  | iff s p p2 =>
    obtain ⟨b, c, d, h1, h2, h3, h4⟩ := hA
    refine ⟨_, rfl, a, _, _, _, rfl, rfl, SqT.of h1, at0, sz (by show 2 ≤ 100000; decide), fun t ht => ?_⟩
    have s1 := same_new ht (.tup [.str "give", .str "ask"])
    refine ⟨t, _, rfl, .inr (SqT.of upd_same), rfl, rfl, _, rfl, itF rfl ⟨_, rfl, _, rfl, a, _, _, _, rfl, rfl, SqT.of (s1 _ _ h1), at0, rfl, .inr ⟨_, rfl, _, _, rfl, rfl, _, rfl, a, _, rfl, SqT.of (s1 _ _ h1), ?_, ?_⟩⟩⟩
    · exact fun z => absurd z (not_whole (i := 2) (by decide) len2)
    · intro _ p hp
      have s2 := s1.trans (same_new hp (.tup (cutV [V.str "if", .ref b, .ref c, .ref d] (some 2) none)))
      refine q p _ [.ref c, .ref d] s2 ?_ ⟨⟨c, rfl, PAt.tk (tk_same s2) h3⟩, ⟨d, rfl, PAt.tk (tk_same s2) h4⟩, trivial⟩
      rw [upd_same]
      exact congrArg (fun z => some (HO.tup z)) cut2
/-! ### _law_simples -/
def spSmp : Sp := fun vs H Q _ => ∃ (a : Addr) (p : Pt), vs = [.ref a] ∧ PAt H p a ∧ ∀ r H' us, Same H H' → H' r = some (.tup us) → All2 (RefV H') (termsP p) us → Q (.ref r) H'
abbrev s_law_simples : Stmt := top 34
theorem scLsimples : FnScope ["part"] ["part"] (defScope s_law_simples) := ⟨rfl, rfl, rfl, by decide +kernel, rfl, by decide +kernel, by decide +kernel⟩
theorem ok_smp (T : Txt K mg) {f : Addr} {fd : FuncData} (F : Fun K "_law_simples" "_law_simples" s_law_simples f fd) : FnOk P w K mg base CX0 1 f fd ["part"] spSmp := by
  refine F.ok scLsimples (fun vs H Q E h => ?_) (fun cdv A outer s H vs Q E hr h => ?_)
  · obtain ⟨a, p, rfl, _⟩ := h
    rfl
  obtain ⟨a, p, rfl, hA, q⟩ := h
  refine ⟨_, (pss_cons (ps_if (pt_cmpR op_eq (pe_ix ix_tup (pv 0) pe_int (fun _ _ => rfl)) pe_str (nomark _)) (pss_one (ps_ret (pe_ix ix_tup (pv 0) pe_int (fun _ _ => rfl)))) pss_nil)
    (pss_cons (ps_if (pt_cmpR op_eq (pe_ix ix_tup (pv 0) pe_int (fun _ _ => rfl)) pe_str (nomark _)) (pss_one (ps_ret (pe_tup pa_nil))) pss_nil)
    (pss_one (ps_ret (pe_tup (pa_cons (pe_ix ix_tup (pv 0) (pe_op op_sub pe_int (pe_callTy call_int1 (by rfl) T.m_int (by decide +kernel) (pa_cons (pe_cmpR op_eq (pe_ix ix_tup (pv 0) pe_int (fun _ _ => rfl)) pe_str (nomark _)) pa_nil))) (fun _ _ => rfl)) pa_nil)))))), ?_⟩
  cases p with
  | ask g ts j =>
    obtain ⟨b, vs, h1, h2, h3⟩ := hA
    exact ⟨_, rfl, a, _, _, _, rfl, rfl, SqT.of h1, at0, rfl, _, rfl, itT rfl ⟨_, rfl, a, _, _, _, rfl, rfl, SqT.of h1, at2, q b _ vs (Same.refl _) h2 h3⟩⟩
  | post j x p p2 =>
    obtain ⟨c, d, h1, h2, h3⟩ := hA
    exact ⟨_, rfl, a, _, _, _, rfl, rfl, SqT.of h1, at0, rfl, _, rfl, itF rfl ⟨_, rfl, a, _, _, _, rfl, rfl, SqT.of h1, at0, rfl, _, rfl, itT rfl ⟨sz (by decide), fun p hp => q p _ [] (same_new hp _) upd_same trivial⟩⟩⟩
  | give j s =>
    obtain ⟨b, h1, h2⟩ := hA
    exact ⟨_, rfl, a, _, _, _, rfl, rfl, SqT.of h1, at0, rfl, _, rfl, itF rfl ⟨_, rfl, a, _, _, _, rfl, rfl, SqT.of h1, at0, rfl, _, rfl, itF rfl ⟨_, rfl, _, rfl, a, _, _, _, rfl, rfl, SqT.of h1, at0, rfl, .inr ⟨_, rfl, _, _, rfl, rfl, a, _, _, _, rfl, rfl, SqT.of h1, at2, sz (by show 1 ≤ 100000; decide), fun p hp => q p _ _ (same_new hp _) upd_same ⟨⟨b, rfl, h2.tk (tk_same (same_new hp _))⟩, trivial⟩⟩⟩⟩⟩
  | tell x s p =>
    obtain ⟨b, c, h1, h2, h3⟩ := hA
    exact ⟨_, rfl, a, _, _, _, rfl, rfl, SqT.of h1, at0, rfl, _, rfl, itF rfl ⟨_, rfl, a, _, _, _, rfl, rfl, SqT.of h1, at0, rfl, _, rfl, itF rfl ⟨_, rfl, _, rfl, a, _, _, _, rfl, rfl, SqT.of h1, at0, rfl, .inr ⟨_, rfl, _, _, rfl, rfl, a, _, _, _, rfl, rfl, SqT.of h1, at2, sz (by show 1 ≤ 100000; decide), fun p hp => q p _ _ (same_new hp _) upd_same ⟨⟨b, rfl, h2.tk (tk_same (same_new hp _))⟩, trivial⟩⟩⟩⟩⟩
  | lett x s p =>
    obtain ⟨b, c, h1, h2, h3⟩ := hA
    exact ⟨_, rfl, a, _, _, _, rfl, rfl, SqT.of h1, at0, rfl, _, rfl, itF rfl ⟨_, rfl, a, _, _, _, rfl, rfl, SqT.of h1, at0, rfl, _, rfl, itF rfl ⟨_, rfl, _, rfl, a, _, _, _, rfl, rfl, SqT.of h1, at0, rfl, .inr ⟨_, rfl, _, _, rfl, rfl, a, _, _, _, rfl, rfl, SqT.of h1, at2, sz (by show 1 ≤ 100000; decide), fun p hp => q p _ _ (same_new hp _) upd_same ⟨⟨b, rfl, h2.tk (tk_same (same_new hp _))⟩, trivial⟩⟩⟩⟩⟩
  | iff s p p2 =>
    obtain ⟨b, c, d, h1, h2, h3, h4⟩ := hA
    exact ⟨_, rfl, a, _, _, _, rfl, rfl, SqT.of h1, at0, rfl, _, rfl, itF rfl ⟨_, rfl, a, _, _, _, rfl, rfl, SqT.of h1, at0, rfl, _, rfl, itF rfl ⟨_, rfl, _, rfl, a, _, _, _, rfl, rfl, SqT.of h1, at0, rfl, .inr ⟨_, rfl, _, _, rfl, rfl, a, _, _, _, rfl, rfl, SqT.of h1, at1, sz (by show 1 ≤ 100000; decide), fun p hp => q p _ _ (same_new hp _) upd_same ⟨⟨b, rfl, h2.tk (tk_same (same_new hp _))⟩, trivial⟩⟩⟩⟩⟩
/-! ### _law_tplaces -/
end
end KB.N

namespace KB.N
open PySem L2 HT

/-! ### del xs[a:] -/
section
variable {prog : Program} {w : World} {A : Around} {E : Value → Shared → Prop} {s : Shared}
end
section
variable {X : Cx} {pos : Pos}
end
end KB.N

namespace KB.N
open PySem L2 HT

section
variable {P : Program} {w : World} {K : PySem.W.Frag} {mg : Str → Option Value} {base : Heap}
/-! ### last_taken -/
end
end KB.N

namespace KB.N
open PySem L2 HT

/-! ### a part with another one put in -/
theorem PVr.tk {H H' : Hp} (e : TK H H') {p : Pt} {v : V} (h : PVr H p v) : PVr H' p v := let ⟨b, e1, h1⟩ := h; ⟨b, e1, h1.tk e⟩
theorem _root_.KB.All2.set {α : Type} {S : α → V → Prop} {x : α} {v : V} (hx : S x v) : ∀ {as : List α} {vs : List V} (i : Nat), All2 S as vs → All2 S (as.set i x) (vs.set i v)
  | [], [], _, _ => trivial
  | a :: as, w :: vs, 0, h => ⟨hx, h.2⟩
  | a :: as, w :: vs, i + 1, h => ⟨h.1, All2.set hx i h.2⟩
  | [], _ :: _, _, h => h.elim
  | _ :: _, [], _, h => h.elim
/-! ### places within -/
/-! ### what is asked of an errand's parts: the words within ws, the hand-ons within js -/
def hdN : Hd → List Str
  | .nam x => [x]
  | .lett x => [x]
  | _ => []
def nmsT : Tm → List Str
  | .mk h _ k => hdN h ++ (List.ofFn fun i => nmsT (k i)).flatten
theorem nms_mk (t : Tm) : nmsT t = hdN (hdT t) ++ ((kidsT t).map nmsT).flatten := by
  cases t with
  | mk h n k =>
    show hdN h ++ _ = hdN h ++ ((List.ofFn k).map nmsT).flatten
    rw [List.map_ofFn]
    rfl
structure TmW (ws : List Str) (t : Tm) : Prop where
  s : STm t
  c : ∀ y ∈ nmsT t, y ∈ ws
def aP (ws js : List Str) : Pt → Prop
  | .give j t => j ∈ js ∧ TmW ws t
  | .ask f ts j => j ∈ js ∧ isV f = true ∧ ts.length ≤ 4 ∧ ∀ t ∈ ts, TmW ws t
  | .tell x t p => (isW x = true ∧ x ∈ ws) ∧ TmW ws t ∧ aP ws js p
  | .lett x t p => (isW x = true ∧ x ∈ ws) ∧ TmW ws t ∧ aP ws js p
  | .iff t p q => TmW ws t ∧ aP ws js p ∧ aP ws js q
  | .post j x p q => (isW j = true ∧ j ∈ js) ∧ (isW x = true ∧ x ∈ ws) ∧ aP ws js p ∧ aP ws js q
section
variable {P : Program} {w : World} {K : PySem.W.Frag} {mg : Str → Option Value} {base : Heap}
/-! ### _law_tput -/
end
end KB.N

namespace KB.N
open PySem L2 HT

/-! ### new words -/
/-! ### new words are words -/
theorem digs_small : ∀ n k : Nat, k ≤ n → ∀ c ∈ digs k, small c = true := by
  intro n
  induction n with
  | zero =>
    intro k hk c hc
    have h0 : k = 0 := by omega
    subst h0
    rw [digs_eq, if_pos rfl, List.nil_append] at hc
    rw [List.mem_singleton.mp hc]
    decide
  | succ n ih =>
    intro k hk c hc
    rw [digs_eq] at hc
    rcases List.mem_append.mp hc with z | z
    · by_cases d : k / 26 = 0
      · rw [if_pos d] at z
        cases z
      · rw [if_neg d] at z
        exact ih (k / 26) (by omega) c z
    · rw [List.mem_singleton.mp z]
      unfold small
      rw [decide_eq_true (by omega), decide_eq_true (by omega)]
      rfl
theorem isW_wordOf {k : Nat} (h : k < 26 ^ 7) : isW (wordOf k) = true := by
  have hl := digs_len 6 k h
  have hz : (wordOf k).length = (digs k).length + 1 := by
    show ((digs k ++ [113]).toArray).size = _
    rw [List.size_toArray, List.length_append]
    rfl
  have hk : keptW.contains (wordOf k) = false := by
    cases hc : keptW.contains (wordOf k) with
    | false => rfl
    | true =>
      exfalso
      have hm : wordOf k ∈ keptW := by simpa using hc
      have hlast : (wordOf k).cps.toList.getLast? = some 113 := by
        show (digs k ++ [113]).toArray.toList.getLast? = some 113
        rw [List.getLast?_append]
        rfl
      have all : ∀ z ∈ keptW, z.cps.toList.getLast? ≠ some 113 := by decide +kernel
      exact all _ hm hlast
  unfold isW
  rw [hk, hz]
  have a1 : decide (1 ≤ (digs k).length + 1) = true := decide_eq_true (by omega)
  have a2 : decide ((digs k).length + 1 ≤ 8) = true := decide_eq_true (by omega)
  rw [a1, a2]
  have a3 : (wordOf k).cps.toList.all small = true := by
    show (digs k ++ [113]).toArray.toList.all small = true
    rw [List.all_eq_true]
    intro c hc
    rcases List.mem_append.mp (show c ∈ digs k ++ [113] from hc) with z | z
    · exact digs_small k k (Nat.le_refl _) c z
    · rw [List.mem_singleton.mp z]
      decide
  rw [a3]
  rfl
section
variable {P : Program} {w : World} {K : PySem.W.Frag} {mg : Str → Option Value} {base : Heap}
/-! ### word_of -/
end
end KB.N

namespace KB.N
open PySem L2 HT

theorem kids_mkL (h : Hd) (ts : List Tm) : kidsT (mkL h ts) = ts := ofFn_get ts
theorem pd_mkL (h : Hd) (ts : List Tm) : pd (mkL h ts) = pdH h (ts.map pd) := by
  show pdH h (List.ofFn fun i => pd (ts.get i)) = _
  have e : (List.ofFn fun i : Fin ts.length => pd (ts.get i)) = (List.ofFn fun i : Fin ts.length => ts.get i).map pd := by
    rw [List.map_ofFn]
    rfl
  rw [e, ofFn_get]
/-! ### other words -/
def calH (g : Str → Str) : Hd → Hd
  | .nam x => .nam (g x)
  | .lett x => .lett (g x)
  | h => h
def calT (g : Str → Str) : Tm → Tm
  | .mk h n k => mkL (calH g h) (List.ofFn fun i => calT g (k i))
theorem calT_eq (g : Str → Str) (t : Tm) : calT g t = mkL (calH g (hdT t)) ((kidsT t).map (calT g)) := by
  cases t with
  | mk h n k =>
    show mkL (calH g h) (List.ofFn fun i => calT g (k i)) = mkL (calH g h) ((List.ofFn k).map (calT g))
    rw [List.map_ofFn]
    rfl
theorem nms_kid {t u : Tm} (m : u ∈ kidsT t) : ∀ y ∈ nmsT u, y ∈ nmsT t := fun y hy => by
  rw [nms_mk t]
  exact List.mem_append_right _ (List.mem_flatten.mpr ⟨_, List.mem_map.mpr ⟨u, m, rfl⟩, hy⟩)
theorem nms_hd {t : Tm} : ∀ y ∈ hdN (hdT t), y ∈ nmsT t := fun y hy => by
  rw [nms_mk t]
  exact List.mem_append_left _ hy
theorem ok_cal {g : Str → Str} : ∀ {t : Tm}, okT t → (∀ y ∈ nmsT t, isW (g y) = true) → okT (calT g t) := by
  intro t
  induction t with
  | mk h n k ih =>
    intro o hg
    show okT (mkL (calH g h) (List.ofFn fun i => calT g (k i)))
    refine ok_mkL ?_ fun t ht => ?_
    · cases h with
      | nam x => exact hg x (nms_hd x (List.mem_singleton.mpr rfl))
      | lett x => exact hg x (nms_hd x (List.mem_singleton.mpr rfl))
      | num z => exact o.1
      | ask f => exact o.1
      | _ => trivial
    · obtain ⟨i, rfl⟩ := List.mem_ofFn.mp ht
      exact ih i (o.2 i) fun y hy => hg y (nms_kid (List.mem_ofFn.mpr ⟨i, rfl⟩) y hy)
theorem cnt_cal {g : Str → Str} : ∀ t : Tm, cnt (calT g t) = cnt t := by
  intro t
  induction t with
  | mk h n k ih =>
    show cnt (mkL (calH g h) (List.ofFn fun i => calT g (k i))) = _
    rw [cnt_mkL, cnt_mk]
    congr 1
    show ((List.ofFn fun i => calT g (k i)).map cnt).sum = ((List.ofFn k).map cnt).sum
    rw [List.map_ofFn, List.map_ofFn]
    congr 2
    funext i
    exact ih i
theorem simple_cal {g : Str → Str} : ∀ {t : Tm}, simple t = true → simple (calT g t) = true := by
  intro t
  induction t with
  | mk h n k ih =>
    intro o
    obtain ⟨o1, o2⟩ := simple_mk o
    show simple (mkL (calH g h) (List.ofFn fun i => calT g (k i))) = true
    refine simple_mkL (by cases h <;> exact o1) fun t ht => ?_
    obtain ⟨i, rfl⟩ := List.mem_ofFn.mp ht
    exact ih i (o2 i)
theorem ht_cal {g : Str → Str} : ∀ {t : Tm} {n : Nat}, HtLe n t → HtLe n (calT g t) := by
  intro t
  induction t with
  | mk h m k ih =>
    intro n o
    cases n with
    | zero => exact o.elim
    | succ n =>
      show HtLe (n + 1) (mkL (calH g h) (List.ofFn fun i => calT g (k i)))
      refine ht_mkL fun t ht => ?_
      obtain ⟨i, rfl⟩ := List.mem_ofFn.mp ht
      exact ih i (o i)
theorem nms_cal {g : Str → Str} : ∀ t : Tm, nmsT (calT g t) = (nmsT t).map g := by
  intro t
  induction t with
  | mk h n k ih =>
    rw [nms_mk, nms_mk]
    rw [show calT g (.mk h n k) = mkL (calH g h) (List.ofFn fun i => calT g (k i)) from rfl, kids_mkL]
    show hdN (calH g h) ++ ((List.ofFn fun i => calT g (k i)).map nmsT).flatten = (hdN h ++ ((List.ofFn k).map nmsT).flatten).map g
    rw [List.map_append, List.map_flatten, List.map_map, List.map_ofFn, List.map_ofFn]
    have e1 : hdN (calH g h) = (hdN h).map g := by cases h <;> rfl
    rw [e1]
    congr 3
    funext i
    exact ih i
theorem TmW.cal {ws : List Str} {g : Str → Str} {t : Tm} (h : TmW ws t) (hg : ∀ y ∈ ws, isW (g y) = true) : TmW (ws.map g) (calT g t) where
  s := ⟨ok_cal h.s.ok fun y hy => hg y (h.c y hy), simple_cal h.s.si, by rw [cnt_cal]; exact h.s.cn, ht_cal h.s.ht⟩
  c y hy := by
    rw [nms_cal] at hy
    obtain ⟨z, hz, rfl⟩ := List.mem_map.mp hy
    exact List.mem_map.mpr ⟨z, h.c z hz, rfl⟩
def calP (g k : Str → Str) : Pt → Pt
  | .give j t => .give (k j) (calT g t)
  | .ask f ts j => .ask f (ts.map (calT g)) (k j)
  | .tell x t p => .tell (g x) (calT g t) (calP g k p)
  | .lett x t p => .lett (g x) (calT g t) (calP g k p)
  | .iff t p q => .iff (calT g t) (calP g k p) (calP g k q)
  | .post j x p q => .post (k j) (g x) (calP g k p) (calP g k q)
theorem wP_cal {g k : Str → Str} : ∀ p : Pt, wP (calP g k p) = (wP p).map g
  | .give j t => rfl
  | .ask f ts j => rfl
  | .tell x t p => congrArg (g x :: ·) (wP_cal p)
  | .lett x t p => congrArg (g x :: ·) (wP_cal p)
  | .iff t p q => by
    show wP (calP g k p) ++ wP (calP g k q) = (wP p ++ wP q).map g
    rw [wP_cal p, wP_cal q, List.map_append]
  | .post j x p q => by
    show g x :: (wP (calP g k p) ++ wP (calP g k q)) = (x :: (wP p ++ wP q)).map g
    rw [wP_cal p, wP_cal q, List.map_cons, List.map_append]
theorem jP_cal {g k : Str → Str} : ∀ p : Pt, jP (calP g k p) = (jP p).map k
  | .give j t => rfl
  | .ask f ts j => rfl
  | .tell x t p => jP_cal p
  | .lett x t p => jP_cal p
  | .iff t p q => by
    show jP (calP g k p) ++ jP (calP g k q) = (jP p ++ jP q).map k
    rw [jP_cal p, jP_cal q, List.map_append]
  | .post j x p q => by
    show k j :: (jP (calP g k p) ++ jP (calP g k q)) = (j :: (jP p ++ jP q)).map k
    rw [jP_cal p, jP_cal q, List.map_cons, List.map_append]
theorem pcnt_cal {g k : Str → Str} : ∀ p : Pt, pcnt (calP g k p) = pcnt p
  | .give j t => rfl
  | .ask f ts j => rfl
  | .tell x t p => congrArg (1 + ·) (pcnt_cal p)
  | .lett x t p => congrArg (1 + ·) (pcnt_cal p)
  | .iff t p q => by
    show 1 + pcnt (calP g k p) + pcnt (calP g k q) = 1 + pcnt p + pcnt q
    rw [pcnt_cal p, pcnt_cal q]
  | .post j x p q => by
    show 1 + pcnt (calP g k p) + pcnt (calP g k q) = 1 + pcnt p + pcnt q
    rw [pcnt_cal p, pcnt_cal q]
theorem aP_cal {ws js : List Str} {g k : Str → Str} (hg : ∀ y ∈ ws, isW (g y) = true) (hk : ∀ j ∈ js, isW j = true → isW (k j) = true) : ∀ {p : Pt}, aP ws js p → aP (ws.map g) (js.map k) (calP g k p)
  | .give j t, h => ⟨List.mem_map.mpr ⟨j, h.1, rfl⟩, h.2.cal hg⟩
  | .ask f ts j, h => ⟨List.mem_map.mpr ⟨j, h.1, rfl⟩, h.2.1, by rw [List.length_map]; exact h.2.2.1, fun t ht => by
    obtain ⟨u, hu, rfl⟩ := List.mem_map.mp ht
    exact (h.2.2.2 u hu).cal hg⟩
  | .tell x t p, h => ⟨⟨hg x h.1.2, List.mem_map.mpr ⟨x, h.1.2, rfl⟩⟩, h.2.1.cal hg, aP_cal hg hk h.2.2⟩
  | .lett x t p, h => ⟨⟨hg x h.1.2, List.mem_map.mpr ⟨x, h.1.2, rfl⟩⟩, h.2.1.cal hg, aP_cal hg hk h.2.2⟩
  | .iff t p q, h => ⟨h.1.cal hg, aP_cal hg hk h.2.1, aP_cal hg hk h.2.2⟩
  | .post j x p q, h => ⟨⟨hk j h.1.2 h.1.1, List.mem_map.mpr ⟨j, h.1.2, rfl⟩⟩, ⟨hg x h.2.1.2, List.mem_map.mpr ⟨x, h.2.1.2, rfl⟩⟩, aP_cal hg hk h.2.2.1, aP_cal hg hk h.2.2.2⟩
/-! ### words by numbers -/
def numG (ws : List Str) : Nat → Str → Str
  | 0, x => x
  | i + 1, x => if ws[i]? = some x then wordOf i else numG ws i x
theorem num_at {ws : List Str} (hn : ws.Nodup) {i : Nat} {x : Str} (hi : ws[i]? = some x) : ∀ n, i < n → numG ws n x = wordOf i
  | n + 1, h => by
    show (if ws[n]? = some x then wordOf n else numG ws n x) = wordOf i
    by_cases c : ws[n]? = some x
    · rw [if_pos c]
      obtain ⟨h1, h2⟩ := List.getElem?_eq_some_iff.mp hi
      obtain ⟨h3, h4⟩ := List.getElem?_eq_some_iff.mp c
      have := (List.getElem_inj hn).mp (h4.trans h2.symm)
      rw [this]
    · rw [if_neg c]
      refine num_at hn hi n ?_
      by_cases d : i = n
      · rw [d] at hi; exact absurd hi c
      · omega
def numW (ws : List Str) (x : Str) : Str := numG ws ws.length x
theorem numW_at {ws : List Str} (hn : ws.Nodup) {i : Nat} {x : Str} (hi : ws[i]? = some x) : numW ws x = wordOf i := num_at hn hi _ (List.getElem?_eq_some_iff.mp hi).1
theorem numW_get {ws : List Str} (hn : ws.Nodup) {x : Str} (hx : x ∈ ws) : ∃ i, i < ws.length ∧ ws[i]? = some x ∧ numW ws x = wordOf i := by
  obtain ⟨i, hi, rfl⟩ := List.mem_iff_getElem.mp hx
  exact ⟨i, hi, List.getElem?_eq_getElem hi, numW_at hn (List.getElem?_eq_getElem hi)⟩
theorem numW_map {ws : List Str} (hn : ws.Nodup) : ws.map (numW ws) = (List.range ws.length).map wordOf := by
  refine List.ext_getElem (by simp) fun i h1 h2 => ?_
  rw [List.length_map] at h1
  rw [List.getElem_map, List.getElem_map, List.getElem_range]
  exact numW_at hn (List.getElem?_eq_getElem h1)
theorem words_nd (n : Nat) : ((List.range n).map wordOf).Nodup := by
  rw [List.nodup_iff_pairwise_ne, List.pairwise_map]
  refine List.Pairwise.imp ?_ List.nodup_range
  intro a b hab z
  exact hab (wordOf_inj z)
theorem numW_nd {ws : List Str} (hn : ws.Nodup) : (ws.map (numW ws)).Nodup := by
  rw [numW_map hn]
  exact words_nd _
theorem numW_isW {ws : List Str} (hn : ws.Nodup) (hl : ws.length ≤ 1000) {x : Str} (hx : x ∈ ws) : isW (numW ws x) = true := by
  obtain ⟨i, h1, h2, h3⟩ := numW_get hn hx
  rw [h3]
  exact isW_wordOf (Nat.lt_of_lt_of_le (show i < 1000 by omega) (by decide))
theorem depthAll_eq : ∀ {ds es : List PyData}, ds.map PyData.depth = es.map PyData.depth → PySem.PyData.depthAll ds = PySem.PyData.depthAll es
  | [], [], _ => rfl
  | d :: ds, e :: es, h => by
    obtain ⟨h1, h2⟩ := List.cons.inj h
    show max d.depth (PySem.PyData.depthAll ds) = max e.depth (PySem.PyData.depthAll es)
    rw [h1, depthAll_eq h2]
  | [], _ :: _, h => nomatch h
  | _ :: _, [], h => nomatch h
theorem depth_tup_eq {ds es : List PyData} (h : ds.map PyData.depth = es.map PyData.depth) : (PyData.tuple ds).depth = (PyData.tuple es).depth := congrArg (· + 1) (depthAll_eq h)
theorem depth_cal {g : Str → Str} : ∀ t : Tm, (pd (calT g t)).depth = (pd t).depth := by
  intro t
  induction t with
  | mk h n k ih =>
    show (pd (mkL (calH g h) (List.ofFn fun i => calT g (k i)))).depth = (pdH h (List.ofFn fun i => pd (k i))).depth
    rw [pd_mkL]
    have e : ((List.ofFn fun i => calT g (k i)).map pd).map PyData.depth = (List.ofFn fun i => pd (k i)).map PyData.depth := by
      rw [List.map_ofFn, List.map_ofFn, List.map_ofFn]
      congr 1
      funext i
      exact ih i
    generalize (List.ofFn fun i => calT g (k i)).map pd = ds at e ⊢
    generalize (List.ofFn fun i => pd (k i)) = es at e ⊢
    cases h with
    | num z => rfl
    | nam z => exact depth_tup_eq rfl
    | lett x => exact depth_tup_eq (by show (0 :: 0 :: ds.map PyData.depth) = (0 :: 0 :: es.map PyData.depth); rw [e])
    | ask f => exact depth_tup_eq (by show [0, 0, (PyData.tuple ds).depth] = [0, 0, (PyData.tuple es).depth]; rw [depth_tup_eq e])
    | plus => exact depth_tup_eq (by show (0 :: ds.map PyData.depth) = (0 :: es.map PyData.depth); rw [e])
    | less => exact depth_tup_eq (by show (0 :: ds.map PyData.depth) = (0 :: es.map PyData.depth); rw [e])
    | tell => exact depth_tup_eq (by show (0 :: ds.map PyData.depth) = (0 :: es.map PyData.depth); rw [e])
    | iff => exact depth_tup_eq (by show (0 :: ds.map PyData.depth) = (0 :: es.map PyData.depth); rw [e])
theorem cnts_cal {g : Str → Str} (ts : List Tm) : cnts (ts.map (calT g)) = cnts ts := by
  induction ts with
  | nil => rfl
  | cons t r ih => rw [List.map_cons, cnts_cons, cnts_cons, cnt_cal, ih]
theorem ncnt_cal {g k : Str → Str} : ∀ p : Pt, ncnt (calP g k p) = ncnt p
  | .give j t => by show 1 + cnt (calT g t) = 1 + cnt t; rw [cnt_cal]
  | .ask f ts j => by show 1 + cnts (ts.map (calT g)) = 1 + cnts ts; rw [cnts_cal]
  | .tell x t p => by show 1 + cnt (calT g t) + ncnt (calP g k p) = 1 + cnt t + ncnt p; rw [cnt_cal, ncnt_cal p]
  | .lett x t p => by show 1 + cnt (calT g t) + ncnt (calP g k p) = 1 + cnt t + ncnt p; rw [cnt_cal, ncnt_cal p]
  | .iff t p q => by show 1 + cnt (calT g t) + ncnt (calP g k p) + ncnt (calP g k q) = 1 + cnt t + ncnt p + ncnt q; rw [cnt_cal, ncnt_cal p, ncnt_cal q]
  | .post j x p q => by show 1 + ncnt (calP g k p) + ncnt (calP g k q) = 1 + ncnt p + ncnt q; rw [ncnt_cal p, ncnt_cal q]
theorem depth_calP {g k : Str → Str} : ∀ p : Pt, (pdP (calP g k p)).depth = (pdP p).depth
  | .give j t => depth_tup_eq (by show [0, 0, (pd (calT g t)).depth] = [0, 0, (pd t).depth]; rw [depth_cal])
  | .ask f ts j => depth_tup_eq (by
      show [0, 0, (PyData.tuple ((ts.map (calT g)).map pd)).depth, 0] = [0, 0, (PyData.tuple (ts.map pd)).depth, 0]
      rw [depth_tup_eq (ds := (ts.map (calT g)).map pd) (es := ts.map pd)]
      rw [List.map_map, List.map_map, List.map_map]
      exact List.map_congr_left fun t _ => depth_cal t)
  | .tell x t p => depth_tup_eq (by show [0, 0, (pd (calT g t)).depth, (pdP (calP g k p)).depth] = [0, 0, (pd t).depth, (pdP p).depth]; rw [depth_cal, depth_calP p])
  | .lett x t p => depth_tup_eq (by show [0, 0, (pd (calT g t)).depth, (pdP (calP g k p)).depth] = [0, 0, (pd t).depth, (pdP p).depth]; rw [depth_cal, depth_calP p])
  | .iff t p q => depth_tup_eq (by show [0, (pd (calT g t)).depth, (pdP (calP g k p)).depth, (pdP (calP g k q)).depth] = [0, (pd t).depth, (pdP p).depth, (pdP q).depth]; rw [depth_cal, depth_calP p, depth_calP q])
  | .post j x p q => depth_tup_eq (by show [0, 0, 0, (pdP (calP g k p)).depth, (pdP (calP g k q)).depth] = [0, 0, 0, (pdP p).depth, (pdP q).depth]; rw [depth_calP p, depth_calP q])
end KB.N

namespace KB.N
open PySem L2 HT

/-! ### errands told anew -/
def wsE (e : TEr) : List Str := e.2.1 ++ wP e.2.2
def jsE (e : TEr) : List Str := jP e.2.2
def gW (e : TEr) : Str → Str := numW (wsE e)
def gJ (e : TEr) : Str → Str := fun j => if j = "home" then "home" else numW (jsE e) j
def anewE (e : TEr) : TEr := (e.1, e.2.1.map (gW e), calP (gW e) (gJ e) e.2.2)
structure AnE (e : TEr) : Prop where
  w : isV e.1 = true
  ns : ∀ x ∈ e.2.1, isW x = true
  nl : e.2.1.length ≤ 4
  a : aP (wsE e) ("home" :: jsE e) e.2.2
  cn : pcnt e.2.2 ≤ 161
  nc : ncnt e.2.2 ≤ 4000
  dp : (pdP e.2.2).depth ≤ 56
  un : (wsE e).Nodup
  uj : (jsE e).Nodup
theorem not_home {j : Str} (h : isW j = true) : j ≠ "home" := fun z => by
  rw [z] at h
  exact absurd h (by decide +kernel)
theorem aP_jw {ws js : List Str} : ∀ {p : Pt}, aP ws js p → ∀ j ∈ jP p, isW j = true ∧ j ∈ js
  | .give j t, _, _, h => by cases h
  | .ask f ts j, _, _, h => by cases h
  | .tell x t p, h, j, hj => aP_jw h.2.2 j hj
  | .lett x t p, h, j, hj => aP_jw h.2.2 j hj
  | .iff t p q, h, j, hj => by
    rcases List.mem_append.mp hj with z | z
    · exact aP_jw h.2.1 j z
    · exact aP_jw h.2.2 j z
  | .post i x p q, h, j, hj => by
    rcases List.mem_cons.mp hj with z | z
    · rw [z]; exact h.1
    · rcases List.mem_append.mp z with z | z
      · exact aP_jw h.2.2.1 j z
      · exact aP_jw h.2.2.2 j z
theorem aP_ww {ws js : List Str} : ∀ {p : Pt}, aP ws js p → ∀ x ∈ wP p, isW x = true
  | .give j t, _, _, h => by cases h
  | .ask f ts j, _, _, h => by cases h
  | .tell x t p, h, y, hy => by
    rcases List.mem_cons.mp hy with z | z
    · rw [z]; exact h.1.1
    · exact aP_ww h.2.2 y z
  | .lett x t p, h, y, hy => by
    rcases List.mem_cons.mp hy with z | z
    · rw [z]; exact h.1.1
    · exact aP_ww h.2.2 y z
  | .iff t p q, h, j, hj => by
    rcases List.mem_append.mp hj with z | z
    · exact aP_ww h.2.1 j z
    · exact aP_ww h.2.2 j z
  | .post i x p q, h, j, hj => by
    rcases List.mem_cons.mp hj with z | z
    · rw [z]; exact h.2.1.1
    · rcases List.mem_append.mp z with z | z
      · exact aP_ww h.2.2.1 j z
      · exact aP_ww h.2.2.2 j z
theorem wP_len : ∀ p : Pt, (wP p).length ≤ pcnt p
  | .give j t => Nat.zero_le _
  | .ask f ts j => Nat.zero_le _
  | .tell x t p => by have := wP_len p; show (wP p).length + 1 ≤ 1 + pcnt p; omega
  | .lett x t p => by have := wP_len p; show (wP p).length + 1 ≤ 1 + pcnt p; omega
  | .iff t p q => by
    have h1 := wP_len p
    have h2 := wP_len q
    show (wP p ++ wP q).length ≤ 1 + pcnt p + pcnt q
    rw [List.length_append]; omega
  | .post j x p q => by
    have h1 := wP_len p
    have h2 := wP_len q
    show (wP p ++ wP q).length + 1 ≤ 1 + pcnt p + pcnt q
    rw [List.length_append]; omega
theorem jP_len : ∀ p : Pt, (jP p).length ≤ pcnt p
  | .give j t => Nat.zero_le _
  | .ask f ts j => Nat.zero_le _
  | .tell x t p => by have := jP_len p; show (jP p).length ≤ 1 + pcnt p; omega
  | .lett x t p => by have := jP_len p; show (jP p).length ≤ 1 + pcnt p; omega
  | .iff t p q => by
    have h1 := jP_len p
    have h2 := jP_len q
    show (jP p ++ jP q).length ≤ 1 + pcnt p + pcnt q
    rw [List.length_append]; omega
  | .post j x p q => by
    have h1 := jP_len p
    have h2 := jP_len q
    show (jP p ++ jP q).length + 1 ≤ 1 + pcnt p + pcnt q
    rw [List.length_append]; omega
theorem AnE.wl {e : TEr} (h : AnE e) : (wsE e).length ≤ 165 := by
  have h1 := wP_len e.2.2
  have h2 := h.cn
  have h3 := h.nl
  show (e.2.1 ++ wP e.2.2).length ≤ 165
  rw [List.length_append]; omega
theorem AnE.jl {e : TEr} (h : AnE e) : (jsE e).length ≤ 161 := Nat.le_trans (jP_len _) h.cn
theorem AnE.gw {e : TEr} (h : AnE e) {y : Str} (hy : y ∈ wsE e) : isW (gW e y) = true := numW_isW h.un (Nat.le_trans h.wl (by decide)) hy
theorem AnE.gj {e : TEr} (h : AnE e) {j : Str} (hj : j ∈ jsE e) : isW (gJ e j) = true ∧ gJ e j = numW (jsE e) j := by
  have h1 := not_home (aP_jw h.a j hj).1
  have e1 : gJ e j = numW (jsE e) j := if_neg h1
  exact ⟨by rw [e1]; exact numW_isW h.uj (Nat.le_trans h.jl (by decide)) hj, e1⟩
theorem gJ_home (e : TEr) : gJ e "home" = "home" := if_pos rfl
theorem AnE.gjs {e : TEr} (h : AnE e) {j : Str} (hj : j ∈ ("home" :: jsE e : List Str)) (hw : isW j = true) : isW (gJ e j) = true := by
  rcases List.mem_cons.mp hj with z | z
  · exact absurd z (not_home hw)
  · exact (h.gj z).1
theorem wsE_anew (e : TEr) : wsE (anewE e) = (wsE e).map (gW e) := by
  show e.2.1.map (gW e) ++ wP (calP (gW e) (gJ e) e.2.2) = (e.2.1 ++ wP e.2.2).map (gW e)
  rw [wP_cal, List.map_append]
theorem jsE_anew (e : TEr) (h : AnE e) : jsE (anewE e) = (jsE e).map (numW (jsE e)) := by
  show jP (calP (gW e) (gJ e) e.2.2) = _
  rw [jP_cal]
  exact List.map_congr_left fun j hj => (h.gj hj).2
theorem AnE.anew {e : TEr} (h : AnE e) : AnE (anewE e) where
  w := h.w
  ns x hx := by
    obtain ⟨y, hy, rfl⟩ := List.mem_map.mp hx
    exact h.gw (List.mem_append_left _ hy)
  nl := by
    show (e.2.1.map (gW e)).length ≤ 4
    rw [List.length_map]; exact h.nl
  a := by
    have := aP_cal (fun y hy => h.gw hy) (fun j hj hw => h.gjs hj hw) h.a
    rw [wsE_anew, jsE_anew e h]
    rw [List.map_cons, gJ_home] at this
    have e1 : (jsE e).map (gJ e) = (jsE e).map (numW (jsE e)) := List.map_congr_left fun j hj => (h.gj hj).2
    rw [e1] at this
    exact this
  cn := by
    show pcnt (calP (gW e) (gJ e) e.2.2) ≤ 161
    rw [pcnt_cal]; exact h.cn
  nc := by
    show ncnt (calP (gW e) (gJ e) e.2.2) ≤ 4000
    rw [ncnt_cal]; exact h.nc
  dp := by
    show (pdP (calP (gW e) (gJ e) e.2.2)).depth ≤ 56
    rw [depth_calP]; exact h.dp
  un := by rw [wsE_anew]; exact numW_nd h.un
  uj := by rw [jsE_anew e h]; exact numW_nd h.uj
/-! ### drawn errands -/
theorem nms_sc {hd : Str → Option Nat} : ∀ {t : Tm} {xs : List Str}, simple t = true → okS hd t xs → ∀ y ∈ nmsT t, y ∈ xs := by
  intro t
  induction t with
  | mk h n k ih =>
    intro xs hs ho y hy
    obtain ⟨s1, s2⟩ := simple_mk hs
    rw [nms_mk] at hy
    rcases List.mem_append.mp hy with z | z
    · cases h with
      | nam x => rw [List.mem_singleton.mp z]; exact ho.1
      | lett x => cases s1
      | _ => cases z
    · obtain ⟨l, hl, hy2⟩ := List.mem_flatten.mp z
      obtain ⟨u, hu, rfl⟩ := List.mem_map.mp hl
      obtain ⟨i, rfl⟩ := List.mem_ofFn.mp hu
      have e1 : inn h i.val xs = xs := by cases h <;> first | rfl | cases s1
      have := ho.2 i
      rw [e1] at this
      exact ih i (s2 i) this y hy2
theorem SmT.tw {hd : Str → Option Nat} {xs ws : List Str} {t : Tm} (h : SmT hd xs t) (hx : ∀ x ∈ xs, x ∈ ws) : TmW ws t := ⟨h.st, fun y hy => hx y (nms_sc h.si h.sc y hy)⟩
theorem okP_aP {hd : Str → Option Nat} {ws js : List Str} : ∀ {p : Pt} {xs hs : List Str}, okP hd p xs hs → (∀ x ∈ xs, x ∈ ws) → (∀ j ∈ hs, j ∈ js) → (∀ x ∈ wP p, x ∈ ws) → (∀ j ∈ jP p, j ∈ js) → aP ws js p
  | .give j t, xs, hs, h, a, b, _, _ => ⟨b j h.1, h.2.tw a⟩
  | .ask f ts j, xs, hs, h, a, b, _, _ => ⟨b j h.1, isV_of h.2.1, h.2.2.2.1, fun t ht => (h.2.2.2.2 t ht).tw a⟩
  | .tell x t p, xs, hs, h, a, b, c, d => ⟨⟨h.1, c x List.mem_cons_self⟩, h.2.1.tw a, okP_aP h.2.2 (fun y hy => by
      rcases List.mem_append.mp hy with z | z
      · exact a y z
      · rw [List.mem_singleton.mp z]; exact c x List.mem_cons_self) b (fun y hy => c y (List.mem_cons_of_mem _ hy)) d⟩
  | .lett x t p, xs, hs, h, a, b, c, d => ⟨⟨h.1, c x List.mem_cons_self⟩, h.2.1.tw a, okP_aP h.2.2 (fun y hy => by
      rcases List.mem_append.mp hy with z | z
      · exact a y z
      · rw [List.mem_singleton.mp z]; exact c x List.mem_cons_self) b (fun y hy => c y (List.mem_cons_of_mem _ hy)) d⟩
  | .iff t p q, xs, hs, h, a, b, c, d => ⟨h.1.tw a, okP_aP h.2.1 a b (fun y hy => c y (List.mem_append_left _ hy)) (fun y hy => d y (List.mem_append_left _ hy)), okP_aP h.2.2 a b (fun y hy => c y (List.mem_append_right _ hy)) (fun y hy => d y (List.mem_append_right _ hy))⟩
  | .post j x p q, xs, hs, h, a, b, c, d => ⟨⟨h.1, d j List.mem_cons_self⟩, ⟨h.2.1, c x List.mem_cons_self⟩, okP_aP h.2.2.1 (fun y hy => by
      rcases List.mem_append.mp hy with z | z
      · exact a y z
      · rw [List.mem_singleton.mp z]; exact c x List.mem_cons_self) b (fun y hy => c y (List.mem_cons_of_mem _ (List.mem_append_left _ hy))) (fun y hy => d y (List.mem_cons_of_mem _ (List.mem_append_left _ hy))),
    okP_aP h.2.2.2 a (fun y hy => by
      rcases List.mem_append.mp hy with z | z
      · exact b y z
      · rw [List.mem_singleton.mp z]; exact d j List.mem_cons_self) (fun y hy => c y (List.mem_cons_of_mem _ (List.mem_append_right _ hy))) (fun y hy => d y (List.mem_cons_of_mem _ (List.mem_append_right _ hy)))⟩
theorem GdTE.an {hF : Str → Option Nat} {e : TEr} (h : GdTE hF e) : AnE e where
  w := isV_of h.w
  ns := h.ws
  nl := h.n4
  a := okP_aP h.ok (fun x hx => List.mem_append_left _ hx) (fun j hj => by rw [List.mem_singleton.mp hj]; exact List.mem_cons_self) (fun x hx => List.mem_append_right _ hx) (fun j hj => List.mem_cons_of_mem _ hj)
  cn := Nat.le_trans h.cn (by decide)
  nc := by
    have := ncnt_le h.ok
    have := h.cn
    omega
  dp := by
    have := depth_okP h.ok
    have := h.cn
    omega
  un := h.un
  uj := h.uj
/-! ### as Python's data -/
theorem aP_kP {ws js : List Str} (hj : ∀ j ∈ js, PySem.PyData.strOk j = true) : ∀ {p : Pt}, aP ws js p → kP p
  | .give j t, h => ⟨hj j h.1, h.2.s⟩
  | .ask f ts j, h => ⟨hj j h.1, h.2.1, h.2.2.1, fun t ht => (h.2.2.2 t ht).s⟩
  | .tell x t p, h => ⟨h.1.1, h.2.1.s, aP_kP hj h.2.2⟩
  | .lett x t p, h => ⟨h.1.1, h.2.1.s, aP_kP hj h.2.2⟩
  | .iff t p q, h => ⟨h.1.s, aP_kP hj h.2.1, aP_kP hj h.2.2⟩
  | .post j x p q, h => ⟨h.1.1, h.2.1.1, aP_kP hj h.2.2.1, aP_kP hj h.2.2.2⟩
theorem AnE.jok {e : TEr} (h : AnE e) : ∀ j ∈ ("home" :: jsE e : List Str), PySem.PyData.strOk j = true := fun j hj => by
  rcases List.mem_cons.mp hj with z | z
  · rw [z]; decide +kernel
  · exact isW_ok (aP_jw h.a j z).1
theorem AnE.kp {e : TEr} (h : AnE e) : kP e.2.2 := aP_kP h.jok h.a
def pdE (e : TEr) : PyData := .tuple [.str e.1, .tuple (e.2.1.map PyData.str), pdP e.2.2]
def pdB (es : List TEr) : PyData := .tuple (es.map pdE)
theorem dp_er {K : PySem.W.Frag} {H : Hp} {e : TEr} {v : V} (h : TErV H e v) : Dp K H v (pdE e) := by
  obtain ⟨q, r, b, rfl, h1, h2, h3⟩ := h
  exact .tup (SqT.of h1) (.cons (.str _) (.cons (.tup (SqT.of h2) (dp_strs _)) (.cons (dp_pat h3) .nil)))
theorem dp_ers {K : PySem.W.Frag} {H : Hp} : ∀ {es : List TEr} {vs : List V}, All2 (TErV H) es vs → DpAll K H vs (es.map pdE)
  | [], [], _ => .nil
  | e :: es, v :: vs, h => .cons (dp_er h.1) (dp_ers h.2)
  | [], _ :: _, h => h.elim
  | _ :: _, [], h => h.elim
theorem dp_bk {K : PySem.W.Frag} {H : Hp} {es : List TEr} {vs : List V} {p : Addr} (h : TBkAt H es vs p) : Dp K H (.ref p) (pdB es) := .tup (SqT.of h.1) (dp_ers h.2)
end KB.N

namespace KB.N
open PySem PySem.Spec PyProof.Rows L2 LamX NdefX

/-! ### what stays where tables of code objects may grow -/
def Sx (H H' : Hp) : Prop := ExtN H H' ∧ ∀ b, H' b = none → H b = none
theorem Sx.refl (H : Hp) : Sx H H := ⟨ExtN.refl H, fun _ z => z⟩
theorem Sx.trans {H H1 H2 : Hp} (a : Sx H H1) (b : Sx H1 H2) : Sx H H2 := ⟨a.1.trans b.1, fun x z => a.2 x (b.2 x z)⟩
theorem Sx.free {H H' : Hp} (s : Sx H H') {b : Addr} (z : H' b = none) : H b = none := s.2 b z
theorem Sx.at_ {H H' : Hp} (s : Sx H H') {b : Addr} {o : HO} (h : H b = some o) (n : ∀ ps, o ≠ .tbl ps) : H' b = some o := s.1 b o h n
theorem Sx.t {H H' : Hp} (s : Sx H H') {b : Addr} {xs : List V} (h : H b = some (.tup xs)) : H' b = some (.tup xs) := s.1 b _ h fun _ z => nomatch z
theorem Sx.l {H H' : Hp} (s : Sx H H') {b : Addr} {xs : List V} (h : H b = some (.lst xs)) : H' b = some (.lst xs) := s.1 b _ h fun _ z => nomatch z
theorem Sx.d {H H' : Hp} (s : Sx H H') {b : Addr} {kvs : List (Key × V)} (h : H b = some (.dK kvs)) : H' b = some (.dK kvs) := s.1 b _ h fun _ z => nomatch z
theorem Sx.tk {H H' : Hp} (s : Sx H H') : TK H H' := fun _ _ h => s.t h
theorem Sx.code {H H' : Hp} (s : Sx H H') {c : Addr} {q : Str} (h : H c = some (CodeO c q)) : H' c = some (CodeO c q) := s.1 c _ h codeO_ne
/-! ### a lambda with parameters -/
/-- its words, the cells that it captured, its code object -/
structure LF where
  qual : Str
  pr : Arguments
  bd : Expr
  sc : Scope
  cl : List (Str × Addr)
  c : Addr
abbrev LF.obj (F : LF) (pm ctv : Value) : Obj := PySem.W.kla_obj "<lambda>" F.qual F.pr F.bd F.sc F.cl pm F.c ctv
def LamO (f : Addr) (F : LF) : HO := .ext fun h => ∃ pm ctv : Value, h.get? f = some (F.obj pm ctv)
theorem lamO_ne {f : Addr} {F : LF} (ps : Array Value) : LamO f F ≠ .tbl ps := fun z => by
  unfold LamO at z
  cases z
/-- what is known of a lambda at f -/
def Kn (f : Addr) (F : LF) (H : Hp) : Prop := H f = some (LamO f F) ∧ H F.c = some (CodeO F.c F.qual)
theorem Kn.sx {f : Addr} {F : LF} {H H' : Hp} (s : Sx H H') (k : Kn f F H) : Kn f F H' := ⟨s.1 f _ k.1 lamO_ne, s.code k.2⟩
section
variable {X : Cx} {pins : List (Addr × Obj)} {σ : L2.St} {H : Hp} {s : Shared}
end
section
variable {X : Cx} {pins : List (Addr × Obj)} {σ : L2.St} {H : Hp} {s : Shared}
end
/-! ### a parameter that holds a lambda, called -/
/-! ### a def that is handed a lambda -/
end KB.N

namespace KB.N
open PySem L2 HT

theorem _root_.KB.All2.take {α : Type} {S : α → V → Prop} : ∀ {as : List α} {vs : List V} (n : Nat), All2 S as vs → All2 S (as.take n) (vs.take n)
  | _, _, 0, _ => trivial
  | [], [], _ + 1, _ => trivial
  | a :: as, v :: vs, n + 1, h => ⟨h.1, All2.take n h.2⟩
  | [], _ :: _, _ + 1, h => h.elim
  | _ :: _, [], _ + 1, h => h.elim
theorem _root_.KB.All2.drop {α : Type} {S : α → V → Prop} : ∀ {as : List α} {vs : List V} (n : Nat), All2 S as vs → All2 S (as.drop n) (vs.drop n)
  | _, _, 0, h => h
  | [], [], _ + 1, _ => trivial
  | a :: as, v :: vs, n + 1, h => All2.drop n h.2
  | [], _ :: _, _ + 1, h => h.elim
  | _ :: _, [], _ + 1, h => h.elim
/-! ### remade as a machine of data -/
section
variable {N B : Type} (R : Tre N) (g : N → List B → B) (F : N → B)
end
section
variable {P : Program} {w : World} {K : PySem.W.Frag} {mg : Str → Option Value} {base : Heap} {N B : Type}
def WtV (R : Tre N) (H : Hp) (e : N × Bool) (v : V) : Prop := ∃ q a, v = .ref q ∧ H q = some (.tup [.ref a, .bl e.2]) ∧ R.A H e.1 a
theorem WtV.tk {R : Tre N} {H H' : Hp} (k : TK H H') {e : N × Bool} {v : V} (h : WtV R H e v) : WtV R H' e v := let ⟨q, a, e1, h1, h2⟩ := h; ⟨q, a, e1, k _ _ h1, R.tk k h2⟩
end
end KB.N

namespace KB.N
open PySem L2 HT

/-! ### data that stands in tuples of our own -/
mutual
inductive RAt (H : Hp) : PyData → V → Prop
  | str (x : Str) : RAt H (.str x) (.str x)
  | int (z : Int) : RAt H (.int z) (.int z)
  | tup {a : Addr} {us : List V} {ds : List PyData} : H a = some (.tup us) → RAtL H ds us → RAt H (.tuple ds) (.ref a)
inductive RAtL (H : Hp) : List PyData → List V → Prop
  | nil : RAtL H [] []
  | cons {d : PyData} {v : V} {ds : List PyData} {vs : List V} : RAt H d v → RAtL H ds vs → RAtL H (d :: ds) (v :: vs)
end
mutual
theorem RAt.tk {H H' : Hp} (k : TK H H') : ∀ {d : PyData} {v : V}, RAt H d v → RAt H' d v
  | _, _, .str x => .str x
  | _, _, .int z => .int z
  | _, _, .tup h l => .tup (k _ _ h) (RAtL.tk k l)
theorem RAtL.tk {H H' : Hp} (k : TK H H') : ∀ {ds : List PyData} {vs : List V}, RAtL H ds vs → RAtL H' ds vs
  | _, _, .nil => .nil
  | _, _, .cons h l => .cons (RAt.tk k h) (RAtL.tk k l)
end
mutual
theorem RAt.dp {K : PySem.W.Frag} {H : Hp} : ∀ {d : PyData} {v : V}, RAt H d v → Dp K H v d
  | _, _, .str x => .str x
  | _, _, .int z => .int z
  | _, _, .tup h l => .tup (SqT.of h) (RAtL.dp l)
theorem RAtL.dp {K : PySem.W.Frag} {H : Hp} : ∀ {ds : List PyData} {vs : List V}, RAtL H ds vs → DpAll K H vs ds
  | _, _, .nil => .nil
  | _, _, .cons h l => .cons (RAt.dp h) (RAtL.dp l)
end
theorem RAtL.all {H : Hp} : ∀ {ds : List PyData} {vs : List V}, RAtL H ds vs → All2 (RAt H) ds vs
  | _, _, .nil => trivial
  | _, _, .cons h l => ⟨h, l.all⟩
theorem RAtL.len {H : Hp} {ds : List PyData} {vs : List V} (h : RAtL H ds vs) : vs.length = ds.length := h.all.len
/-! ### parts and terms of an errand -/
/-! ### the program's telling anew, as data -/
def Tells (kvs : List (Key × V)) (g : Str → Str) (ys : List Str) : Prop := ∀ y ∈ ys, valV kvs (Sum.inr y) = some (.str (g y))
section
variable {P : Program} {w : World} {K : PySem.W.Frag} {mg : Str → Option Value} {base : Heap}
/-! ### renamed_term -/
/-! ### renamed_part -/
end
end KB.N

namespace KB.N
open PySem L2 HT

/-! ### the words and hand-ons that are met -/
def wHd : Pt → List Str
  | .tell x _ _ | .lett x _ _ | .post _ x _ _ => [x]
  | _ => []
def jHd : Pt → List Str
  | .post j _ _ _ => [j]
  | _ => []
theorem flat_take {f : Pt → List Str} {ps : List Pt} {i : Nat} {p : Pt} (h : ps[i]? = some p) : ((ps.take (i + 1)).map f).flatten = ((ps.take i).map f).flatten ++ f p := by
  obtain ⟨hi, he⟩ := List.getElem?_eq_some_iff.mp h
  rw [List.take_succ_eq_append_getElem hi, he, List.map_append, List.flatten_append, List.map_singleton, List.flatten_cons, List.flatten_nil, List.append_nil]
theorem wHd_le (p : Pt) : (wHd p).length ≤ 1 := by cases p <;> simp [wHd]
theorem jHd_le (p : Pt) : (jHd p).length ≤ 1 := by cases p <;> simp [jHd]
section
variable {P : Program} {w : World} {K : PySem.W.Frag} {mg : Str → Option Value} {base : Heap}
/-! ### words_met -/
/-! ### _law_by_numbers -/
def spByN : Sp := fun vs H Q _ => ∃ (l : Addr) (ws : List Str), vs = [.ref l] ∧ H l = some (.lst (ws.map V.str)) ∧ ws.length ≤ 4000 ∧ ∀ d H' kvs, H d = none → Same H H' → H' d = some (.dK kvs) → kvs.length ≤ ws.length → Tells kvs (numW ws) ws → Q (.ref d) H'
abbrev s_law_by_numbers : Stmt := top 39
theorem scLby_numbers : FnScope ["words", "letters", "found", "k", "word", "left", "told"] ["words"] (defScope s_law_by_numbers) := ⟨rfl, rfl, rfl, by decide +kernel, rfl, by decide +kernel, by decide +kernel⟩
theorem ok_Lbyn (T : Txt K mg) {f : Addr} {fd : FuncData} (F : Fun K "_law_by_numbers" "_law_by_numbers" s_law_by_numbers f fd) : FnOk P w K mg base CX0 1 f fd ["words"] spByN := by
  refine F.ok scLby_numbers (fun vs H Q E h => ?_) (fun cdv A outer s H vs Q E hr h => ?_)
  · obtain ⟨l, ws, rfl, _⟩ := h
    rfl
  obtain ⟨l, ws, rfl, hl, hz, q⟩ := h
  refine ⟨_, (pss_cons (ps_set (i := 1) scLby_numbers.nd rfl (Or.inl rfl) pe_str)
    (pss_cons (ps_set (i := 2) scLby_numbers.nd rfl (Or.inl rfl) pe_dnewK)
    (pss_cons (ps_for PassesOwn.never rfl (pi_enum (by rfl) T.m_enumerate (pa_cons (pv 0) pa_nil)) (pg_tup rfl (pgs_cons (pg_name (i := 3) scLby_numbers.nd rfl (Or.inl rfl)) (pgs_cons (pg_name (i := 4) scLby_numbers.nd rfl (Or.inl rfl)) pgs_nil))) (pss_cons (ps_set (i := 5) scLby_numbers.nd rfl (Or.inl rfl) (pv 3))
    (pss_cons (ps_set (i := 6) scLby_numbers.nd rfl (Or.inl rfl) (pe_ix ix_str (pv 1) (pe_op op_mod (pv 5) pe_int) (fun _ _ => rfl)))
    (pss_cons (ps_while PassesOwn.never (pt_cmpR op_gt (pv 5) pe_int (nomark _)) (pss_cons (ps_set (i := 5) scLby_numbers.nd rfl (Or.inl rfl) (pe_op op_fdivW (pv 5) pe_int))
    (pss_one (ps_set (i := 6) scLby_numbers.nd rfl (Or.inl rfl) (pe_op op_add_str (pe_ix ix_str (pv 1) (pe_op op_mod (pv 5) pe_int) (fun _ _ => rfl)) (pv 6))))))
    (pss_one (ps_dput (hu_of hr) (pv 2) (pv 4) (pe_op op_add_str (pv 6) pe_str) rfl))))))
    (pss_one (ps_ret (pv 2)))))), ?_⟩
  intro d hd
  have s1 := same_new hd (.dK [])
  have d1 : upd H d (.dK []) d = some (.dK []) := upd_same
  generalize upd H d (.dK []) = H1 at s1 d1
  have nld : l ≠ d := ne_of_none hl hd
  refine ⟨_, rfl, l, ws.map V.str, rfl, SqL.of (s1 _ _ hl), for_it (walk_enum (xs := ws.map V.str)) (fun i σ H' => ∃ o3 o4 o5 o6 kvs, σ = [some (.ref l), some (.str lettersS), some (.ref d), o3, o4, o5, o6] ∧ Same H H' ∧ H' d = some (.dK kvs) ∧ kvs.length ≤ i ∧ ∀ x ∈ ws.take i, valV kvs (Sum.inr x) = some (.str (numG ws i x))) ?_ ?_ ?_ ?_⟩
  · exact ⟨none, none, none, none, [], rfl, s1, d1, Nat.le_refl _, fun x hx => by rw [List.take_zero] at hx; cases hx⟩
  · rintro i σ H' _ ⟨o3, o4, o5, o6, kvs, rfl, s2, _⟩
    exact SqL.of (s2 _ _ hl)
  · rintro i x σ H2 H3 hi ⟨o3, o4, o5, o6, kvs, rfl, s2, d2, hkl, hk⟩ ⟨T0, x1, x2, rfl, hT, rfl, e1, e2⟩
    have e1' : x1 = .int (i : Nat) := (Option.some.inj e1).symm
    subst e1'
    have e2' : (ws.map V.str)[i]? = some x2 := e2
    rw [List.getElem?_map] at e2'
    obtain ⟨y, hy, rfl⟩ : ∃ y, ws[i]? = some y ∧ V.str y = x2 := by
      cases e : ws[i]? with
      | none => rw [e] at e2'; cases e2'
      | some y => rw [e] at e2'; exact ⟨y, rfl, Option.some.inj e2'⟩
    obtain ⟨hj, hj2⟩ := List.getElem?_eq_some_iff.mp hy
    have s3 := same_new hT (.tup [.int (i : Nat), .str y])
    refine ⟨T0, _, rfl, SqT.of upd_same, rfl, _, _, rfl, _, _, rfl, rfl, ?_⟩
    have s23 := s2.trans s3
    have d3 := s3 _ _ d2
    generalize upd H2 T0 (.tup [.int (i : Nat), .str y]) = H3 at s3 s23 d3
    refine ⟨_, rfl, ?_⟩
    refine ⟨_, rfl, _, rfl, _, _, rfl, rfl, (by show (0 : Int) < 26; decide), lettersS, _, _, rfl, rfl, (by decide +kernel), letters_at (Int.emod_nonneg _ (by decide)) (Int.emod_lt_of_pos _ (by decide)), ?_⟩
    -- the letters of a number
    have hd8 : (digs i).length ≤ 9 := digs_len 8 i (Nat.lt_of_lt_of_le (show i < 4000 by rw [List.length_map] at hi; omega) (by decide))
    refine ⟨fun m σ H' => ∃ (r : Nat) (c : Nat) (t : List Nat), σ = [some (.ref l), some (.str lettersS), some (.ref d), some (.int (i : Nat)), some (.str y), some (.int (r : Int)), some (.str ⟨(c :: t).toArray⟩)] ∧ H3 = H' ∧ r / 26 = m ∧ digs0 (r / 26) ++ (c :: t) = digs i, ⟨_, i, 97 + i % 26, [], ?_, rfl, rfl, ?_⟩, ?_⟩
    · congr 7
    · exact (digs_digs0 i).symm
    rintro m σ H' ⟨r, c, t, rfl, rfl, rfl, e⟩
    refine ⟨_, rfl, _, _, rfl, rfl, _, rfl, ?_⟩
    have hll : (c :: t).length ≤ 9 := by
      have := congrArg List.length e
      rw [List.length_append] at this
      omega
    by_cases cc : r ≤ 25
    · refine itF (decide_eq_false (by omega)) ?_
      have hr0 : r / 26 = 0 := by omega
      rw [hr0] at e
      have e3 : c :: t = digs i := e
      refine ⟨_, rfl, _, _, rfl, rfl, sz (by show (c :: t).toArray.size + 1 ≤ 100000; rw [List.size_toArray]; omega), ?_⟩
      refine ⟨_, rfl, _, rfl, d, _, rfl, DPut.k (k := Sum.inr y) d3 (Nat.lt_of_le_of_lt (m := 4000) (by rw [List.length_map] at hi; omega) (by decide)), ?_⟩
      have ew : ((⟨(c :: t).toArray⟩ : Str) ++ ("q" : Str)) = wordOf i := by
        rw [e3]
        show (⟨(digs i).toArray ++ (Str.ofString "q").cps⟩ : Str) = ⟨(digs i ++ [113]).toArray⟩
        congr 1
        simp
        decide +kernel
      rw [ew]
      have hlp := length_putK kvs (Sum.inr y) (V.str (wordOf i))
      refine ⟨_, _, _, _, _, rfl, same_mut s23 hd, upd_same, by omega, fun x hx => ?_⟩
      show valV (putK kvs (Sum.inr y) (.str (wordOf i))) (Sum.inr x) = some (.str (if ws[i]? = some x then wordOf i else numG ws i x))
      rw [List.take_succ_eq_append_getElem hj, hj2] at hx
      by_cases exy : x = y
      · subst exy
        rw [valV_put, if_pos rfl, if_pos hy]
      · rw [valV_put, if_neg (fun z => exy (Sum.inr.inj z)), if_neg (by rw [hy]; intro z; exact exy (Option.some.inj z).symm)]
        rcases List.mem_append.mp hx with z | z
        · exact hk x z
        · exact absurd (List.mem_singleton.mp z) exy
    · refine itT (decide_eq_true (by omega)) ⟨fun σ' H' => ∃ m', m' < r / 26 ∧ ∃ (r : Nat) (c : Nat) (t : List Nat), σ' = [some (.ref l), some (.str lettersS), some (.ref d), some (.int (i : Nat)), some (.str y), some (.int (r : Int)), some (.str ⟨(c :: t).toArray⟩)] ∧ H3 = H' ∧ r / 26 = m' ∧ digs0 (r / 26) ++ (c :: t) = digs i, fun _ _ z => z, ?_⟩
      refine ⟨_, rfl, _, _, rfl, rfl, ⟨by decide, log_many (by decide) (by decide)⟩, ?_⟩
      refine ⟨_, rfl, _, rfl, _, _, rfl, rfl, (by show (0 : Int) < 26; decide), lettersS, _, _, rfl, rfl, (by decide +kernel), letters_at (Int.emod_nonneg _ (by decide)) (Int.emod_lt_of_pos _ (by decide)), _, rfl, _, _, rfl, rfl, sz (by show 1 + (c :: t).toArray.size ≤ 100000; rw [List.size_toArray]; omega), ?_⟩
      refine ⟨r / 26 / 26, by omega, r / 26, 97 + r / 26 % 26, c :: t, ?_, rfl, rfl, ?_⟩
      · rw [str_cons]
        congr 8
      · have hne : r / 26 ≠ 0 := by omega
        rw [← e, digs0_eq hne]
        simp
  · rintro σ H2 ⟨o3, o4, o5, o6, kvs, rfl, s2, d2, hkl, hk⟩
    rw [List.length_map] at hkl
    rw [List.length_map, List.take_length] at hk
    exact ⟨_, rfl, q d H2 kvs hd s2 d2 hkl hk⟩
end
end KB.N

namespace KB.N
open PySem L2 HT

theorem wP_inn (p : Pt) : wP p = wHd p ++ ((innP p).map wP).flatten := by cases p <;> simp [wP, wHd, innP]
theorem jP_inn (p : Pt) : jP p = jHd p ++ ((innP p).map jP).flatten := by cases p <;> simp [jP, jHd, innP]
theorem sum_take (ps : List Pt) (i : Nat) : ((ps.take i).map pcnt).sum ≤ (ps.map pcnt).sum := take_sum ps i
theorem flat_sum (f : Pt → List Str) (hf : ∀ p, (f p).length ≤ pcnt p) (ps : List Pt) : ((ps.map f).flatten).length ≤ (ps.map pcnt).sum := by
  induction ps with
  | nil => exact Nat.le_refl _
  | cons p r ih =>
    have := hf p
    rw [List.map_cons, List.flatten_cons, List.length_append, List.map_cons, List.sum_cons]
    omega
section
variable {P : Program} {w : World} {K : PySem.W.Frag} {mg : Str → Option Value} {base : Heap}
/-! ### posts_met -/
/-! ### numbered -/
/-! ### _law_twords -/
def spTw (n : Nat) : Sp := fun vs H Q _ => ∃ (a : Addr) (p : Pt), vs = [.ref a] ∧ PAt H p a ∧ pcnt p ≤ n ∧ pcnt p ≤ 1000 ∧ ∀ l H', H l = none → Same H H' → H' l = some (.lst ((wP p).map V.str)) → Q (.ref l) H'
abbrev s_law_twords : Stmt := top 35
theorem scLtwords : FnScope ["part", "found", "one"] ["part"] (defScope s_law_twords) := ⟨rfl, rfl, rfl, by decide +kernel, rfl, by decide +kernel, by decide +kernel⟩
theorem ok_tw {n : Nat} {f f1 : Addr} {fd d1 : FuncData} (F : Fun K "_law_twords" "_law_twords" s_law_twords f fd) (G_law_twords : FnOk P w K mg base CX0 (n + 1) f fd ["part"] (spTw n)) (R_law_twords : Ref K mg "_law_twords" f fd ["part"])
    (G_law_inner : FnOk P w K mg base CX0 1 f1 d1 ["part"] spInn) (R_law_inner : Ref K mg "_law_inner" f1 d1 ["part"]) : FnOk P w K mg base CX0 (n + 2) f fd ["part"] (spTw (n + 1)) := by
  refine F.ok scLtwords (fun vs H Q E h => ?_) (fun cdv A outer s H vs Q E hr h => ?_)
  · obtain ⟨a, p, rfl, _⟩ := h
    rfl
  obtain ⟨a, p, rfl, hA, hn, hc, q⟩ := h
  refine ⟨_, (pss_cons (ps_set (i := 1) scLtwords.nd rfl (Or.inl rfl) (pe_lst pa_nil))
    (pss_cons (ps_if (pt_cmpR op_in_seq (pe_ix ix_tup (pv 0) pe_int (fun _ _ => rfl)) (pe_tup (pa_cons pe_str (pa_cons pe_str pa_nil))) rfl) (pss_one (ps_expr (pe_bm PySem.F.plainAttrs_list PySem.F.slot_list_append PySem.F.type_list_append mt_append (pv 1) (pa_cons (pe_ix ix_tup (pv 0) pe_int (fun _ _ => rfl)) pa_nil)))) pss_nil)
    (pss_cons (ps_if (pt_cmpR op_eq (pe_ix ix_tup (pv 0) pe_int (fun _ _ => rfl)) pe_str (nomark _)) (pss_one (ps_expr (pe_bm PySem.F.plainAttrs_list PySem.F.slot_list_append PySem.F.type_list_append mt_append (pv 1) (pa_cons (pe_ix ix_tup (pv 0) pe_int (fun _ _ => rfl)) pa_nil)))) pss_nil)
    (pss_cons (ps_for PassesOwn.never rfl (pi_tup (pe_call G_law_inner (hr.mono (by omega)) rfl R_law_inner.m R_law_inner.k R_law_inner.b .nil pass0 (pa_cons (pv 0) pa_nil))) (pg_name (i := 2) scLtwords.nd rfl (Or.inl rfl)) (pss_one (ps_expr (pe_bm PySem.F.plainAttrs_list PySem.F.slot_list_extend PySem.F.type_list_extend mt_extend (pv 1) (pa_cons (pe_call G_law_twords (hr.mono (by omega)) rfl R_law_twords.m R_law_twords.k R_law_twords.b .nil pass0 (pa_cons (pv 2) pa_nil)) pa_nil)))))
    (pss_one (ps_ret (pv 1))))))), ?_⟩
  have hck := pcnt_inn p
  refine ⟨sz (by show 0 ≤ 100000; decide), fun fl hfl => ?_⟩
  have s0 := same_new hfl (.lst [])
  have f0 : upd H fl (.lst []) fl = some (.lst []) := upd_same
  generalize upd H fl (.lst []) = H0 at s0 f0
  have hA0 := PAt.tk (tk_same s0) hA
  obtain ⟨rd, hd⟩ := hA0.head
  have tail : ∀ H1, Same H H1 → H1 fl = some (.lst ((wHd p).map V.str)) → (tSeq (tFor (iTup K (tCall spInn [] E0 (tCons (tVar 0) tNil))) (gName 2) (tDrop (tBM K "list" rExtend (tVar 1) (tCons (tCall (spTw n) [] E0 (tCons (tVar 2) tNil)) tNil)))) (tRet (tVar 1))) { nx := fun x H' => Q V.non H', rt := Q } [some (.ref a), some (.ref fl), none] H1 := by
    intro H1 s1 h1
    refine ⟨_, rfl, a, p, rfl, PAt.tk (tk_same s1) hA, fun pi H2 us s2 h2 k2 => ?_⟩
    have s12 := s1.trans s2
    refine ⟨pi, rfl, ⟨_, SqT.of h2⟩, for_tup (xs := us) (fun i σ H' => ∃ o, σ = [some (.ref a), some (.ref fl), o] ∧ Same H H' ∧ TK H2 H' ∧ H' fl = some (.lst ((wHd p ++ (((innP p).take i).map wP).flatten).map V.str))) ?_ ?_ ?_ ?_⟩
    · refine ⟨_, rfl, s12, fun _ _ z => z, ?_⟩
      rw [List.take_zero]
      show H2 fl = some (.lst ((wHd p ++ []).map V.str))
      rw [List.append_nil]
      exact s2 _ _ h1
    · rintro i σ H' _ ⟨o, rfl, _, t3, _⟩
      exact SqT.of (t3 _ _ h2)
    · rintro i x σ H3 hx ⟨o, rfl, s3, t3, g3⟩
      obtain ⟨u, hu, b, rfl, hb⟩ := k2.get hx
      have hct := mem_sum (mem_of_get hu)
      refine ⟨_, rfl, .inl ⟨rfl, _, SqL.of g3⟩, _, rfl, b, u, rfl, PAt.tk t3 hb, by omega, by omega, fun l4 H4 hl4 s4 h4 => ?_⟩
      have g4 := s4 _ _ g3
      have e1 : ((wHd p ++ (((innP p).take i).map wP).flatten).map V.str).length ≤ 1001 := by
        have h1 := flat_sum wP wP_len ((innP p).take i)
        have h2 := sum_take (innP p) i
        have h3 := wHd_le p
        rw [List.length_map, List.length_append]
        omega
      have e2 : ((wP u).map V.str).length ≤ 1000 := by
        have := wP_len u
        rw [List.length_map]; omega
      refine ⟨fl, l4, _, _, rfl, rfl, g4, h4, sz (by omega), ?_⟩
      refine ⟨_, rfl, same_mut (s3.trans s4) hfl, t3.trans ((tk_same s4).trans (tk_put g4)), ?_⟩
      rw [upd_same, flat_take hu, ← List.map_append, List.append_assoc]
    · rintro σ H3 ⟨o, rfl, s3, t3, g3⟩
      refine ⟨_, rfl, q fl H3 hfl s3 ?_⟩
      rw [k2.len, List.take_length, ← wP_inn] at g3
      exact g3
  refine ⟨_, rfl, a, _, _, _, rfl, rfl, SqT.of hd, at0, sz (by show 2 ≤ 100000; decide), fun t ht => ?_⟩
  have s4 := same_new ht (.tup [.str "let", .str "tell"])
  have ht4 : upd H0 t (.tup [.str "let", .str "tell"]) t = some (.tup [.str "let", .str "tell"]) := upd_same
  generalize upd H0 t (.tup [.str "let", .str "tell"]) = H4 at s4 ht4
  have s04 := s0.trans s4
  have g4 := s4 _ _ f0
  have hA4 : PAt H4 p a := PAt.tk (tk_same s4) hA0
  refine ⟨t, _, rfl, .inr (SqT.of ht4), rfl, rfl, _, rfl, ?_⟩
  have big : ([] : List V).length < sizeLine := by decide
  cases p with
  | tell x t0 p0 =>
    obtain ⟨b1, c1, e1, e2, e3⟩ := hA4
    have tk := tk_put (o := .lst ([] ++ [V.str x])) g4
    exact itT rfl ⟨_, rfl, .inl ⟨rfl, _, SqL.of g4⟩, _, rfl, a, _, _, _, rfl, rfl, SqT.of e1, at1, fl, _, _, rfl, rfl, g4, big, ⟨_, rfl, a, _, _, _, rfl, rfl, SqT.of (tk _ _ e1), at0, rfl, _, rfl, itF rfl (tail _ (same_mut s04 hfl) upd_same)⟩⟩
  | lett x t0 p0 =>
    obtain ⟨b1, c1, e1, e2, e3⟩ := hA4
    have tk := tk_put (o := .lst ([] ++ [V.str x])) g4
    exact itT rfl ⟨_, rfl, .inl ⟨rfl, _, SqL.of g4⟩, _, rfl, a, _, _, _, rfl, rfl, SqT.of e1, at1, fl, _, _, rfl, rfl, g4, big, ⟨_, rfl, a, _, _, _, rfl, rfl, SqT.of (tk _ _ e1), at0, rfl, _, rfl, itF rfl (tail _ (same_mut s04 hfl) upd_same)⟩⟩
  | post j x p1 p2 =>
    obtain ⟨c1, d1, e1, e2, e3⟩ := hA4
    exact itF rfl ⟨_, rfl, a, _, _, _, rfl, rfl, SqT.of e1, at0, rfl, _, rfl, itT rfl ⟨_, rfl, .inl ⟨rfl, _, SqL.of g4⟩, _, rfl, a, _, _, _, rfl, rfl, SqT.of e1, at2, fl, _, _, rfl, rfl, g4, big, tail _ (same_mut s04 hfl) upd_same⟩⟩
  | give j t0 =>
    obtain ⟨b1, e1, e2⟩ := hA4
    exact itF rfl ⟨_, rfl, a, _, _, _, rfl, rfl, SqT.of e1, at0, rfl, _, rfl, itF rfl (tail _ s04 g4)⟩
  | ask f0 ts j =>
    obtain ⟨b1, vs1, e1, e2, e3⟩ := hA4
    exact itF rfl ⟨_, rfl, a, _, _, _, rfl, rfl, SqT.of e1, at0, rfl, _, rfl, itF rfl (tail _ s04 g4)⟩
  | iff t0 p1 p2 =>
    obtain ⟨b1, c1, d1, e1, e2, e3, e4⟩ := hA4
    exact itF rfl ⟨_, rfl, a, _, _, _, rfl, rfl, SqT.of e1, at0, rfl, _, rfl, itF rfl (tail _ s04 g4)⟩
theorem no_tw {f : Addr} {fd : FuncData} : FnOk P w K mg base CX0 1 f fd ["part"] (spTw 0) := by
  have no : ∀ vs H Q E, ¬ spTw 0 vs H Q E := fun vs H Q E h => by
    obtain ⟨a, p, _, _, h0, _⟩ := h
    have := pcnt_inn p
    omega
  exact ⟨fun vs H Q E h => absurd h (no vs H Q E), fun A outer s H args us vs Q E _ _ _ _ h => absurd h (no vs H Q E)⟩
theorem all_tw {f f1 : Addr} {fd d1 : FuncData} (F : Fun K "_law_twords" "_law_twords" s_law_twords f fd) (R_law_twords : Ref K mg "_law_twords" f fd ["part"])
    (G_law_inner : FnOk P w K mg base CX0 1 f1 d1 ["part"] spInn) (R_law_inner : Ref K mg "_law_inner" f1 d1 ["part"]) : ∀ n : Nat, FnOk P w K mg base CX0 (n + 1) f fd ["part"] (spTw n)
  | 0 => no_tw
  | n + 1 => ok_tw F (all_tw F R_law_twords G_law_inner R_law_inner n) R_law_twords G_law_inner R_law_inner
/-! ### _law_tposts -/
def spTp (n : Nat) : Sp := fun vs H Q _ => ∃ (a : Addr) (p : Pt), vs = [.ref a] ∧ PAt H p a ∧ pcnt p ≤ n ∧ pcnt p ≤ 1000 ∧ ∀ l H', H l = none → Same H H' → H' l = some (.lst ((jP p).map V.str)) → Q (.ref l) H'
abbrev s_law_tposts : Stmt := top 36
theorem scLtposts : FnScope ["part", "found", "one"] ["part"] (defScope s_law_tposts) := ⟨rfl, rfl, rfl, by decide +kernel, rfl, by decide +kernel, by decide +kernel⟩
theorem ok_tp {n : Nat} {f f1 : Addr} {fd d1 : FuncData} (F : Fun K "_law_tposts" "_law_tposts" s_law_tposts f fd) (G_law_tposts : FnOk P w K mg base CX0 (n + 1) f fd ["part"] (spTp n)) (R_law_tposts : Ref K mg "_law_tposts" f fd ["part"])
    (G_law_inner : FnOk P w K mg base CX0 1 f1 d1 ["part"] spInn) (R_law_inner : Ref K mg "_law_inner" f1 d1 ["part"]) : FnOk P w K mg base CX0 (n + 2) f fd ["part"] (spTp (n + 1)) := by
  refine F.ok scLtposts (fun vs H Q E h => ?_) (fun cdv A outer s H vs Q E hr h => ?_)
  · obtain ⟨a, p, rfl, _⟩ := h
    rfl
  obtain ⟨a, p, rfl, hA, hn, hc, q⟩ := h
  refine ⟨_, (pss_cons (ps_set (i := 1) scLtposts.nd rfl (Or.inl rfl) (pe_ifExp (pt_cmpR op_eq (pe_ix ix_tup (pv 0) pe_int (fun _ _ => rfl)) pe_str (nomark _)) (pe_lst (pa_cons (pe_ix ix_tup (pv 0) pe_int (fun _ _ => rfl)) pa_nil)) (pe_lst pa_nil)))
    (pss_cons (ps_for PassesOwn.never rfl (pi_tup (pe_call G_law_inner (hr.mono (by omega)) rfl R_law_inner.m R_law_inner.k R_law_inner.b .nil pass0 (pa_cons (pv 0) pa_nil))) (pg_name (i := 2) scLtposts.nd rfl (Or.inl rfl)) (pss_one (ps_expr (pe_bm PySem.F.plainAttrs_list PySem.F.slot_list_extend PySem.F.type_list_extend mt_extend (pv 1) (pa_cons (pe_call G_law_tposts (hr.mono (by omega)) rfl R_law_tposts.m R_law_tposts.k R_law_tposts.b .nil pass0 (pa_cons (pv 2) pa_nil)) pa_nil)))))
    (pss_one (ps_ret (pv 1))))), ?_⟩
  have hck := pcnt_inn p
  obtain ⟨rd, hd⟩ := hA.head
  have tail : ∀ fl, H fl = none → (tSeq (tFor (iTup K (tCall spInn [] E0 (tCons (tVar 0) tNil))) (gName 2) (tDrop (tBM K "list" rExtend (tVar 1) (tCons (tCall (spTp n) [] E0 (tCons (tVar 2) tNil)) tNil)))) (tRet (tVar 1))) { nx := fun x H' => Q V.non H', rt := Q } [some (.ref a), some (.ref fl), none] (upd H fl (.lst ((jHd p).map V.str))) := by
    intro fl hfl
    have s1 := same_new hfl (.lst ((jHd p).map V.str))
    have h1 : upd H fl (.lst ((jHd p).map V.str)) fl = some (.lst ((jHd p).map V.str)) := upd_same
    generalize upd H fl (.lst ((jHd p).map V.str)) = H1 at s1 h1
    refine ⟨_, rfl, a, p, rfl, PAt.tk (tk_same s1) hA, fun pi H2 us s2 h2 k2 => ?_⟩
    have s12 := s1.trans s2
    refine ⟨pi, rfl, ⟨_, SqT.of h2⟩, for_tup (xs := us) (fun i σ H' => ∃ o, σ = [some (.ref a), some (.ref fl), o] ∧ Same H H' ∧ TK H2 H' ∧ H' fl = some (.lst ((jHd p ++ (((innP p).take i).map jP).flatten).map V.str))) ?_ ?_ ?_ ?_⟩
    · refine ⟨_, rfl, s12, fun _ _ z => z, ?_⟩
      rw [List.take_zero]
      show H2 fl = some (.lst ((jHd p ++ []).map V.str))
      rw [List.append_nil]
      exact s2 _ _ h1
    · rintro i σ H' _ ⟨o, rfl, _, t3, _⟩
      exact SqT.of (t3 _ _ h2)
    · rintro i x σ H3 hx ⟨o, rfl, s3, t3, g3⟩
      obtain ⟨u, hu, b, rfl, hb⟩ := k2.get hx
      have hct := mem_sum (mem_of_get hu)
      refine ⟨_, rfl, .inl ⟨rfl, _, SqL.of g3⟩, _, rfl, b, u, rfl, PAt.tk t3 hb, by omega, by omega, fun l4 H4 hl4 s4 h4 => ?_⟩
      have g4 := s4 _ _ g3
      have e1 : ((jHd p ++ (((innP p).take i).map jP).flatten).map V.str).length ≤ 1001 := by
        have h1 := flat_sum jP jP_len ((innP p).take i)
        have h2 := sum_take (innP p) i
        have h3 := jHd_le p
        rw [List.length_map, List.length_append]
        omega
      have e2 : ((jP u).map V.str).length ≤ 1000 := by
        have := jP_len u
        rw [List.length_map]; omega
      refine ⟨fl, l4, _, _, rfl, rfl, g4, h4, sz (by omega), ?_⟩
      refine ⟨_, rfl, same_mut (s3.trans s4) hfl, t3.trans ((tk_same s4).trans (tk_put g4)), ?_⟩
      rw [upd_same, flat_take hu, ← List.map_append, List.append_assoc]
    · rintro σ H3 ⟨o, rfl, s3, t3, g3⟩
      refine ⟨_, rfl, q fl H3 hfl s3 ?_⟩
      rw [k2.len, List.take_length, ← jP_inn] at g3
      exact g3
  refine ⟨_, rfl, a, _, _, _, rfl, rfl, SqT.of hd, at0, rfl, _, rfl, ?_⟩
  cases p with
  | post j x p1 p2 =>
    obtain ⟨c1, d1, e1, e2, e3⟩ := hA
    exact itT rfl ⟨_, rfl, a, _, _, _, rfl, rfl, SqT.of e1, at1, sz (by show 1 ≤ 100000; decide), tail⟩
  | _ => exact itF rfl ⟨sz (by show 0 ≤ 100000; decide), tail⟩
theorem no_tp {f : Addr} {fd : FuncData} : FnOk P w K mg base CX0 1 f fd ["part"] (spTp 0) := by
  have no : ∀ vs H Q E, ¬ spTp 0 vs H Q E := fun vs H Q E h => by
    obtain ⟨a, p, _, _, h0, _⟩ := h
    have := pcnt_inn p
    omega
  exact ⟨fun vs H Q E h => absurd h (no vs H Q E), fun A outer s H args us vs Q E _ _ _ _ h => absurd h (no vs H Q E)⟩
theorem all_tp {f f1 : Addr} {fd d1 : FuncData} (F : Fun K "_law_tposts" "_law_tposts" s_law_tposts f fd) (R_law_tposts : Ref K mg "_law_tposts" f fd ["part"])
    (G_law_inner : FnOk P w K mg base CX0 1 f1 d1 ["part"] spInn) (R_law_inner : Ref K mg "_law_inner" f1 d1 ["part"]) : ∀ n : Nat, FnOk P w K mg base CX0 (n + 1) f fd ["part"] (spTp n)
  | 0 => no_tp
  | n + 1 => ok_tp F (all_tp F R_law_tposts G_law_inner R_law_inner n) R_law_tposts G_law_inner R_law_inner
end
end KB.N

namespace KB.N
open PySem L2 HT

theorem lay_len {H : Hp} {a : Addr} {h : Hd} {xs : List V} (l : Lay H a h xs) : xs.length ≤ 4 := by
  cases h with
  | num z => rw [l.1]; exact Nat.zero_le _
  | nam z => rw [l.1]; exact Nat.zero_le _
  | ask f => exact l.1
  | plus => have e := l.1; omega
  | less => have e := l.1; omega
  | tell => have e := l.1; omega
  | lett x => have e := l.1; omega
  | iff => have e := l.1; omega
theorem stk_of {H : Hp} : ∀ {ts : List Tm} {vs : List V}, All2 (RefV H) ts vs → Stk H vs ts
  | [], [], _ => trivial
  | t :: ts, v :: vs, h => ⟨h.1, stk_of h.2⟩
  | [], _ :: _, h => h.elim
  | _ :: _, [], h => h.elim
theorem _root_.KB.HtLe.kid {n : Nat} {t u : Tm} (h : HtLe (n + 1) t) (m : u ∈ kidsT t) : HtLe n u := by
  obtain ⟨hd, k, c⟩ := t
  obtain ⟨i, rfl⟩ := List.mem_ofFn.mp m
  exact h i
section
variable {P : Program} {w : World} {K : PySem.W.Frag} {mg : Str → Option Value} {base : Heap}
/-! ### _law_parts -/
abbrev s_law_parts : Stmt := top 32
theorem scLparts : FnScope ["term"] ["term"] (defScope s_law_parts) := ⟨rfl, rfl, rfl, by decide +kernel, rfl, by decide +kernel, by decide +kernel⟩
theorem ok_Lparts (T : Txt K mg) {f : Addr} {fd : FuncData} (F : Fun K "_law_parts" "_law_parts" s_law_parts f fd) : FnOk P w K mg base CX0 1 f fd ["term"] spParts := by
  refine F.ok scLparts (fun vs H Q E h => ?_) (fun cdv A outer s H vs Q E hr h => ?_)
  · obtain ⟨a, h, xs, rfl, _⟩ := h
    rfl
  obtain ⟨a, h, xs, rfl, l, q⟩ := h
  refine ⟨_, (pss_cons (ps_if (pt_cmpR op_in_seq (pe_ix ix_tup (pv 0) pe_int (fun _ _ => rfl)) (pe_tup (pa_cons pe_str (pa_cons pe_str pa_nil))) rfl) (pss_one (ps_ret (pe_tup pa_nil))) pss_nil)
    (pss_cons (ps_if (pt_cmpR op_eq (pe_ix ix_tup (pv 0) pe_int (fun _ _ => rfl)) pe_str (nomark _)) (pss_one (ps_ret (pe_ix ix_tup (pv 0) pe_int (fun _ _ => rfl)))) pss_nil)
    (pss_one (ps_ret (pe_slice sl_tupA (pv 0) (po_some (pe_op op_add pe_int (pe_callTy call_int1 (by rfl) T.m_int (by decide +kernel) (pa_cons (pe_cmpR op_eq (pe_ix ix_tup (pv 0) pe_int (fun _ _ => rfl)) pe_str (nomark _)) pa_nil)))) po_none))))), ?_⟩
  obtain ⟨r, hd⟩ := l.head
  refine ⟨_, rfl, a, _, _, _, rfl, rfl, SqT.of hd, at0, sz (by show 2 ≤ 100000; decide), fun t ht => ?_⟩
  have s1 := same_new ht (.tup [.str "number", .str "name"])
  refine ⟨t, _, rfl, .inr (SqT.of upd_same), rfl, rfl, _, rfl, ?_⟩
  cases h with
  | num z =>
    refine itT rfl ⟨sz (by decide), fun p hp => q p _ (s1.trans (same_new hp _)) ?_⟩
    rw [l.1, upd_same]
  | nam z =>
    refine itT rfl ⟨sz (by decide), fun p hp => q p _ (s1.trans (same_new hp _)) ?_⟩
    rw [l.1, upd_same]
  | ask f =>
    obtain ⟨l1, p, l2, l3⟩ := l
    refine itF rfl ⟨_, rfl, a, _, _, _, rfl, rfl, SqT.of (s1 _ _ l2), at0, rfl, _, rfl, ?_⟩
    refine itT rfl ⟨_, rfl, a, _, _, _, rfl, rfl, SqT.of (s1 _ _ l2), at2, ?_⟩
    exact q p _ s1 (s1 _ _ l3)
  | lett x =>
    refine itF rfl ⟨_, rfl, a, _, _, _, rfl, rfl, SqT.of (s1 _ _ l.2), at0, rfl, _, rfl, ?_⟩
    refine itF rfl ⟨_, rfl, _, rfl, a, _, _, _, rfl, rfl, SqT.of (s1 _ _ l.2), at0, rfl, .inr ⟨_, rfl, _, _, rfl, rfl, _, rfl, a, _, rfl, SqT.of (s1 _ _ l.2), ?_, ?_⟩⟩
    · exact fun z => absurd z (not_whole (i := 2) (by decide) len2)
    · intro _ p hp
      refine q p _ (s1.trans (same_new hp _)) ?_
      rw [upd_same]
      exact congrArg (fun z => some (HO.tup z)) cut2
  | plus | less | tell | iff =>
    refine itF rfl ⟨_, rfl, a, _, _, _, rfl, rfl, SqT.of (s1 _ _ l.2), at0, rfl, _, rfl, ?_⟩
    refine itF rfl ⟨_, rfl, _, rfl, a, _, _, _, rfl, rfl, SqT.of (s1 _ _ l.2), at0, rfl, .inr ⟨_, rfl, _, _, rfl, rfl, _, rfl, a, _, rfl, SqT.of (s1 _ _ l.2), ?_, ?_⟩⟩
    · exact fun z => absurd z (not_whole (i := 1) (by decide) len1)
    · intro _ p hp
      refine q p _ (s1.trans (same_new hp _)) ?_
      rw [upd_same]
      exact congrArg (fun z => some (HO.tup z)) cut1

/-! ### _law_called -/
def spCalled (n : Nat) : Sp := fun vs H Q _ => ∃ (a d : Addr) (t : Tm) (kvs : List (Key × V)) (g : Str → Str), vs = [.ref a, .ref d] ∧ At H t a ∧ HtLe n t ∧ H d = some (.dK kvs) ∧ (∀ y ∈ nmsT t, valV kvs (Sum.inr y) = some (.str (g y))) ∧
  ∀ b H', Same H H' → At H' (calT g t) b → Q (.ref b) H'
abbrev s_law_called : Stmt := top 37
theorem scLcalled : FnScope ["term", "words", "parts", "part"] ["term", "words"] (defScope s_law_called) := ⟨rfl, rfl, rfl, by decide +kernel, rfl, by decide +kernel, by decide +kernel⟩
theorem ok_Lcalled (T : Txt K mg) {n : Nat} {f f1 : Addr} {fd d1 : FuncData} (F : Fun K "_law_called" "_law_called" s_law_called f fd) (G_law_called : FnOk P w K mg base CX0 (n + 1) f fd ["term", "words"] (spCalled n)) (R_law_called : Ref K mg "_law_called" f fd ["term", "words"])
    (G_law_parts : FnOk P w K mg base CX0 1 f1 d1 ["term"] spParts) (R_law_parts : Ref K mg "_law_parts" f1 d1 ["term"]) : FnOk P w K mg base CX0 (n + 2) f fd ["term", "words"] (spCalled (n + 1)) := by
  refine F.ok scLcalled (fun vs H Q E h => ?_) (fun cdv A outer s H vs Q E hr h => ?_)
  · obtain ⟨a, d, t, kvs, g, rfl, _⟩ := h
    rfl
  obtain ⟨a, d, t, kvs, g, rfl, hA, hh, hd, hk, q⟩ := h
  refine ⟨_, (pss_cons (ps_if (pt_cmpR op_eq (pe_ix ix_tup (pv 0) pe_int (fun _ _ => rfl)) pe_str (nomark _)) (pss_one (ps_ret (pv 0))) pss_nil)
    (pss_cons (ps_if (pt_cmpR op_eq (pe_ix ix_tup (pv 0) pe_int (fun _ _ => rfl)) pe_str (nomark _)) (pss_one (ps_ret (pe_tup (pa_cons pe_str (pa_cons (pe_dget (hu_of hr) (pv 1) (pe_ix ix_tup (pv 0) pe_int (fun _ _ => rfl)) (fun _ _ => rfl)) pa_nil))))) pss_nil)
    (pss_cons (ps_set (i := 2) scLcalled.nd rfl (Or.inl rfl) (pe_callTy call_tuple_of (by rfl) T.m_tuple (by decide +kernel) (pa_cons (pe_lc (own := [("part", 3)]) (g := gName 3) (tt := tYes) (te := tCall (spCalled n) [] E0 (tCons (tVar 3) (tCons (tVar 1) tNil))) (by rfl) scLcalled.nd (pi_tup (pe_call G_law_parts (hr.mono (by omega)) rfl R_law_parts.m R_law_parts.k R_law_parts.b .nil pass0 (pa_cons (pv 0) pa_nil))) (blkOk_by (own := [("part", 3)]) (N := ["term", "words", "parts", "part"]) (sc := defScope s_law_called) (by decide +kernel)) (fun _ _ _ _ _ => (pg_name (i := 3) scLcalled.nd rfl (Or.inl rfl))) (fun _ _ _ _ _ => pts_nil) (fun _ _ _ _ _ => (pe_call G_law_called hr rfl R_law_called.m R_law_called.k R_law_called.b .nil pass0 (pa_cons (pv 3) (pa_cons (pv 1) pa_nil))))) pa_nil)))
    (pss_cons (ps_if (pt_cmpR op_eq (pe_ix ix_tup (pv 0) pe_int (fun _ _ => rfl)) pe_str (nomark _)) (pss_one (ps_ret (pe_tup (pa_cons pe_str (pa_cons (pe_ix ix_tup (pv 0) pe_int (fun _ _ => rfl)) (pa_cons (pv 2) pa_nil)))))) pss_nil)
    (pss_cons (ps_if (pt_cmpR op_eq (pe_ix ix_tup (pv 0) pe_int (fun _ _ => rfl)) pe_str (nomark _)) (pss_one (ps_ret (pe_op op_catA (pe_tup (pa_cons pe_str (pa_cons (pe_dget (hu_of hr) (pv 1) (pe_ix ix_tup (pv 0) pe_int (fun _ _ => rfl)) (fun _ _ => rfl)) pa_nil))) (pv 2)))) pss_nil)
    (pss_one (ps_ret (pe_op op_catA (pe_slice sl_tupA (pv 0) po_none (po_some pe_int)) (pv 2))))))))), ?_⟩
  obtain ⟨xs, l, kk⟩ := At.kids hA
  obtain ⟨r, hr0⟩ := l.head
  have hlen : (kidsT t).length ≤ 4 := by
    have e1 := kk.len
    have e2 := lay_len l
    omega
  have ecal := calT_eq g t
  have rest : ∀ (Qn : St → Hp → Prop) (H0 : Hp), Same H H0 → (∀ p H' vs, Same H H' → H' p = some (.tup vs) → All2 (RefV H') ((kidsT t).map (calT g)) vs → Qn [some (.ref a), some (.ref d), some (.ref p), none] H') →
      (tAsg (tCB (fun xs H Q => ∃ p ys, xs = [V.ref p] ∧ ((SqL K H p ys ∧ ∀ l, H l = none → Q (.ref l) (upd H l (.tup ys))) ∨ (SqT K H p ys ∧ Q (.ref p) H))) (tCons (tLc (iTup K (tCall spParts [] E0 (tCons (tVar 0) tNil))) (gName 3) tYes (tCall (spCalled n) [] E0 (tCons (tVar 3) (tCons (tVar 1) tNil))) [3]) tNil)) (gName 2)) { nx := Qn, rt := Q } [some (.ref a), some (.ref d), none, none] H0 := by
    intro Qn H0 s0 hq
    refine ⟨_, rfl, a, hdT t, xs, rfl, l.mono s0, fun pp H1 s01 h1 => ?_⟩
    have s1 := s0.trans s01
    have k1 := kk.imp fun _ _ z => RefV.tk (tk_same s1) z
    refine ⟨pp, rfl, ⟨_, SqT.of h1⟩, fun D hD => lc_tup (K := K) (a := pp) (xs := xs) (fun i H' => Same H1 H' ∧ ∃ acc, H' D = some (.lst acc) ∧ All2 (RefV H') (((kidsT t).take i).map (calT g)) acc) ⟨same_new hD _, [], upd_same, by rw [List.take_zero]; trivial⟩ ?_ ?_ ?_⟩
    · rintro i H' _ ⟨s2, _⟩
      exact SqT.of (s2 _ _ h1)
    · rintro i x H2 hx ⟨s2, acc, h2, k2⟩
      obtain ⟨u, hu, c, rfl, hcu⟩ := k1.get hx
      obtain ⟨hj, hj2⟩ := List.getElem?_eq_some_iff.mp hu
      have hmem := mem_of_get hu
      have hl2 := k2.len
      rw [List.length_map, List.length_take] at hl2
      refine ⟨rfl, ?_⟩
      dsimp only [tYes]
      refine iteT ⟨_, rfl, _, rfl, c, d, u, kvs, g, rfl, hcu.tk (tk_same s2), hh.kid hmem, (s1.trans s2) _ _ hd, fun y hy => hk y (nms_kid hmem y hy), fun b H3 s3 hb => ?_⟩
      have h3 := s3 _ _ h2
      have tk := tk_put (o := .lst (acc ++ [.ref b])) h3
      refine ⟨acc, h3, Nat.lt_of_le_of_lt (m := 100) (by omega) (by decide), same_mut (s2.trans s3) hD, _, upd_same, ?_⟩
      rw [List.take_succ_eq_append_getElem hj, hj2, List.map_append]
      exact ((k2.imp fun _ _ z => RefV.tk (tk_same s3) z).imp fun _ _ z => RefV.tk tk z).app ⟨⟨b, rfl, hb.tk tk⟩, trivial⟩
    rintro H2 ⟨s2, acc, h2, k2⟩
    rw [k1.len, List.take_length] at k2
    refine ⟨D, acc, rfl, .inl ⟨SqL.of h2, fun p' hp' => ?_⟩⟩
    have s3 := same_new hp' (.tup acc)
    exact hq p' _ acc (s1.trans (s2.trans s3)) upd_same (k2.imp fun _ _ z => RefV.tk (tk_same s3) z)
  have word : ∀ {y : Str}, y ∈ nmsT t → ∀ {H'}, Same H H' → DGet H' d (.str y) (some (.str (g y))) := fun {y} hy _ s => by
    have e := hk _ hy
    have z := DGet.k (k := Sum.inr y) (s _ _ hd)
    rw [e] at z
    exact z
  refine ⟨_, rfl, a, _, _, _, rfl, rfl, SqT.of hr0, at0, rfl, _, rfl, ?_⟩
  rw [ecal] at q
  cases hh2 : hdT t with
  | num z =>
    rw [hh2] at q l
    refine itT rfl ⟨_, rfl, q a H (Same.refl H) (at_mkL (h := .num z) l ?_)⟩
    rw [l.1] at kk ⊢
    cases e : kidsT t with
    | nil => trivial
    | cons u us => rw [e] at kk; exact kk.elim
  | nam y =>
    rw [hh2] at q l
    refine itF rfl ⟨_, rfl, a, _, _, _, rfl, rfl, SqT.of l.2, at0, rfl, _, rfl, itT rfl ?_⟩
    refine ⟨_, rfl, _, rfl, a, _, _, _, rfl, rfl, SqT.of l.2, at1, d, _, rfl, word ((nms_hd _ (by rw [hh2]; exact List.mem_singleton.mpr rfl))) (Same.refl H), sz (by show 2 ≤ 100000; decide), fun p2 hp2 => ?_⟩
    refine q p2 _ (same_new hp2 _) (at_mkL (h := .nam (g y)) (vs := []) ⟨rfl, upd_same⟩ ?_)
    rw [l.1] at kk
    cases e : kidsT t with
    | nil => trivial
    | cons u us => rw [e] at kk; exact kk.elim
  | ask f0 =>
    rw [hh2] at q l
    obtain ⟨l4, pq, l2, l3⟩ := l
    refine itF rfl ⟨_, rfl, a, _, _, _, rfl, rfl, SqT.of l2, at0, rfl, _, rfl, itF rfl ?_⟩
    refine rest _ H (Same.refl H) fun p H' vs s1 hp k => ?_
    refine ⟨_, rfl, a, _, _, _, rfl, rfl, SqT.of (s1 _ _ l2), at0, rfl, _, rfl, itT rfl ?_⟩
    refine ⟨_, rfl, a, _, _, _, rfl, rfl, SqT.of (s1 _ _ l2), at1, _, rfl, sz (by show 3 ≤ 100000; decide), fun p2 hp2 => ?_⟩
    have s2 := same_new hp2 (.tup [.str "ask", .str f0, .ref p])
    have hl := k.len
    rw [List.length_map] at hl
    exact q p2 _ (s1.trans s2) (at_mkL (h := .ask f0) (vs := vs) ⟨by omega, p, upd_same, s2 _ _ hp⟩ (stk_of (k.imp fun _ _ z => RefV.tk (tk_same s2) z)))
  | lett y =>
    rw [hh2] at q l
    refine itF rfl ⟨_, rfl, a, _, _, _, rfl, rfl, SqT.of l.2, at0, rfl, _, rfl, itF rfl ?_⟩
    refine rest _ H (Same.refl H) fun p H' vs s1 hp k => ?_
    refine ⟨_, rfl, a, _, _, _, rfl, rfl, SqT.of (s1 _ _ l.2), at0, rfl, _, rfl, itF rfl ?_⟩
    refine ⟨_, rfl, a, _, _, _, rfl, rfl, SqT.of (s1 _ _ l.2), at0, rfl, _, rfl, itT rfl ?_⟩
    refine ⟨_, rfl, _, rfl, a, _, _, _, rfl, rfl, SqT.of (s1 _ _ l.2), at1, d, _, rfl, word ((nms_hd _ (by rw [hh2]; exact List.mem_singleton.mpr rfl))) s1, sz (by show 2 ≤ 100000; decide), fun p2 hp2 => ?_⟩
    have s2 := same_new hp2 (.tup [.str "let", .str (g y)])
    have hl := k.len
    rw [List.length_map] at hl
    refine ⟨_, rfl, catA_of upd_same (s2 _ _ hp) (by show 2 + _ ≤ 100000; omega) fun p3 H3 s3 h3 => ?_⟩
    have hl2 : vs.length = 2 := by
      have e1 := kk.len
      have e2 := l.1
      omega
    exact q p3 H3 (s1.trans (s2.trans s3)) (at_mkL (h := .lett (g y)) (vs := vs) ⟨hl2, h3⟩ (stk_of (k.imp fun _ _ z => RefV.tk (tk_same (s2.trans s3)) z)))
  | plus =>
    rw [hh2] at q l
    refine itF rfl ⟨_, rfl, a, _, _, _, rfl, rfl, SqT.of l.2, at0, rfl, _, rfl, itF rfl ?_⟩
    refine rest _ H (Same.refl H) fun p H' vs s1 hp k => ?_
    refine ⟨_, rfl, a, _, _, _, rfl, rfl, SqT.of (s1 _ _ l.2), at0, rfl, _, rfl, itF rfl ?_⟩
    refine ⟨_, rfl, a, _, _, _, rfl, rfl, SqT.of (s1 _ _ l.2), at0, rfl, _, rfl, itF rfl ?_⟩
    have hl := k.len
    rw [List.length_map] at hl
    have hl2 : vs.length = 2 := by
      have e1 := kk.len
      have e2 := l.1
      omega
    refine ⟨_, rfl, _, rfl, a, _, rfl, SqT.of (s1 _ _ l.2), ?_, ?_⟩
    · intro z
      have z2 : 1 = (V.str "plus" :: xs).length := z.2
      rw [List.length_cons, l.1] at z2
      exact absurd z2 (by decide)
    · intro _ p2 hp2
      have e1 : cutV (V.str "plus" :: xs) none (some 1) = [V.str "plus"] := rfl
      rw [e1]
      have s2 := same_new hp2 (.tup [V.str "plus"])
      refine ⟨_, rfl, catA_of upd_same (s2 _ _ hp) (by show 1 + _ ≤ 100000; omega) fun p3 H3 s3 h3 => ?_⟩
      exact q p3 H3 (s1.trans (s2.trans s3)) (at_mkL (h := .plus) (vs := vs) ⟨hl2, h3⟩ (stk_of (k.imp fun _ _ z => RefV.tk (tk_same (s2.trans s3)) z)))
  | less =>
    rw [hh2] at q l
    refine itF rfl ⟨_, rfl, a, _, _, _, rfl, rfl, SqT.of l.2, at0, rfl, _, rfl, itF rfl ?_⟩
    refine rest _ H (Same.refl H) fun p H' vs s1 hp k => ?_
    refine ⟨_, rfl, a, _, _, _, rfl, rfl, SqT.of (s1 _ _ l.2), at0, rfl, _, rfl, itF rfl ?_⟩
    refine ⟨_, rfl, a, _, _, _, rfl, rfl, SqT.of (s1 _ _ l.2), at0, rfl, _, rfl, itF rfl ?_⟩
    have hl := k.len
    rw [List.length_map] at hl
    have hl2 : vs.length = 2 := by
      have e1 := kk.len
      have e2 := l.1
      omega
    refine ⟨_, rfl, _, rfl, a, _, rfl, SqT.of (s1 _ _ l.2), ?_, ?_⟩
    · intro z
      have z2 : 1 = (V.str "less" :: xs).length := z.2
      rw [List.length_cons, l.1] at z2
      exact absurd z2 (by decide)
    · intro _ p2 hp2
      have e1 : cutV (V.str "less" :: xs) none (some 1) = [V.str "less"] := rfl
      rw [e1]
      have s2 := same_new hp2 (.tup [V.str "less"])
      refine ⟨_, rfl, catA_of upd_same (s2 _ _ hp) (by show 1 + _ ≤ 100000; omega) fun p3 H3 s3 h3 => ?_⟩
      exact q p3 H3 (s1.trans (s2.trans s3)) (at_mkL (h := .less) (vs := vs) ⟨hl2, h3⟩ (stk_of (k.imp fun _ _ z => RefV.tk (tk_same (s2.trans s3)) z)))
  | tell =>
    rw [hh2] at q l
    refine itF rfl ⟨_, rfl, a, _, _, _, rfl, rfl, SqT.of l.2, at0, rfl, _, rfl, itF rfl ?_⟩
    refine rest _ H (Same.refl H) fun p H' vs s1 hp k => ?_
    refine ⟨_, rfl, a, _, _, _, rfl, rfl, SqT.of (s1 _ _ l.2), at0, rfl, _, rfl, itF rfl ?_⟩
    refine ⟨_, rfl, a, _, _, _, rfl, rfl, SqT.of (s1 _ _ l.2), at0, rfl, _, rfl, itF rfl ?_⟩
    have hl := k.len
    rw [List.length_map] at hl
    have hl2 : vs.length = 1 := by
      have e1 := kk.len
      have e2 := l.1
      omega
    refine ⟨_, rfl, _, rfl, a, _, rfl, SqT.of (s1 _ _ l.2), ?_, ?_⟩
    · intro z
      have z2 : 1 = (V.str "tell" :: xs).length := z.2
      rw [List.length_cons, l.1] at z2
      exact absurd z2 (by decide)
    · intro _ p2 hp2
      have e1 : cutV (V.str "tell" :: xs) none (some 1) = [V.str "tell"] := rfl
      rw [e1]
      have s2 := same_new hp2 (.tup [V.str "tell"])
      refine ⟨_, rfl, catA_of upd_same (s2 _ _ hp) (by show 1 + _ ≤ 100000; omega) fun p3 H3 s3 h3 => ?_⟩
      exact q p3 H3 (s1.trans (s2.trans s3)) (at_mkL (h := .tell) (vs := vs) ⟨hl2, h3⟩ (stk_of (k.imp fun _ _ z => RefV.tk (tk_same (s2.trans s3)) z)))
  | iff =>
    rw [hh2] at q l
    refine itF rfl ⟨_, rfl, a, _, _, _, rfl, rfl, SqT.of l.2, at0, rfl, _, rfl, itF rfl ?_⟩
    refine rest _ H (Same.refl H) fun p H' vs s1 hp k => ?_
    refine ⟨_, rfl, a, _, _, _, rfl, rfl, SqT.of (s1 _ _ l.2), at0, rfl, _, rfl, itF rfl ?_⟩
    refine ⟨_, rfl, a, _, _, _, rfl, rfl, SqT.of (s1 _ _ l.2), at0, rfl, _, rfl, itF rfl ?_⟩
    have hl := k.len
    rw [List.length_map] at hl
    have hl2 : vs.length = 3 := by
      have e1 := kk.len
      have e2 := l.1
      omega
    refine ⟨_, rfl, _, rfl, a, _, rfl, SqT.of (s1 _ _ l.2), ?_, ?_⟩
    · intro z
      have z2 : 1 = (V.str "if" :: xs).length := z.2
      rw [List.length_cons, l.1] at z2
      exact absurd z2 (by decide)
    · intro _ p2 hp2
      have e1 : cutV (V.str "if" :: xs) none (some 1) = [V.str "if"] := rfl
      rw [e1]
      have s2 := same_new hp2 (.tup [V.str "if"])
      refine ⟨_, rfl, catA_of upd_same (s2 _ _ hp) (by show 1 + _ ≤ 100000; omega) fun p3 H3 s3 h3 => ?_⟩
      exact q p3 H3 (s1.trans (s2.trans s3)) (at_mkL (h := .iff) (vs := vs) ⟨hl2, h3⟩ (stk_of (k.imp fun _ _ z => RefV.tk (tk_same (s2.trans s3)) z)))
theorem no_Lcalled {f : Addr} {fd : FuncData} : FnOk P w K mg base CX0 1 f fd ["term", "words"] (spCalled 0) := by
  have no : ∀ vs H Q E, ¬ spCalled 0 vs H Q E := fun vs H Q E h => by
    obtain ⟨a, d, t, _, _, _, _, h0, _⟩ := h
    exact h0.elim
  exact ⟨fun vs H Q E h => absurd h (no vs H Q E), fun A outer s H args us vs Q E _ _ _ _ h => absurd h (no vs H Q E)⟩
theorem all_Lcalled (T : Txt K mg) {f f1 : Addr} {fd d1 : FuncData} (F : Fun K "_law_called" "_law_called" s_law_called f fd) (R_law_called : Ref K mg "_law_called" f fd ["term", "words"])
    (G_law_parts : FnOk P w K mg base CX0 1 f1 d1 ["term"] spParts) (R_law_parts : Ref K mg "_law_parts" f1 d1 ["term"]) : ∀ n : Nat, FnOk P w K mg base CX0 (n + 1) f fd ["term", "words"] (spCalled n)
  | 0 => no_Lcalled
  | n + 1 => ok_Lcalled T F (all_Lcalled T F R_law_called G_law_parts R_law_parts n) R_law_called G_law_parts R_law_parts
end
end KB.N

namespace KB.N
open PySem L2 HT

/-! ### parts whose words are known, whatever they are -/
structure StL (t : Tm) : Prop where
  ht : HtLe 64 t
structure TmL (ws : List Str) (t : Tm) : Prop where
  s : StL t
  c : ∀ y ∈ nmsT t, y ∈ ws
def aL (ws js : List Str) : Pt → Prop
  | .give j t => j ∈ js ∧ TmL ws t
  | .ask f ts j => j ∈ js ∧ True ∧ ts.length ≤ 4 ∧ ∀ t ∈ ts, TmL ws t
  | .tell x t p => (True ∧ x ∈ ws) ∧ TmL ws t ∧ aL ws js p
  | .lett x t p => (True ∧ x ∈ ws) ∧ TmL ws t ∧ aL ws js p
  | .iff t p q => TmL ws t ∧ aL ws js p ∧ aL ws js q
  | .post j x p q => (True ∧ j ∈ js) ∧ (True ∧ x ∈ ws) ∧ aL ws js p ∧ aL ws js q
theorem TmW.l {ws : List Str} {t : Tm} (h : TmW ws t) : TmL ws t := ⟨⟨h.s.ht⟩, h.c⟩
theorem aP.l {ws js : List Str} : ∀ {p : Pt}, aP ws js p → aL ws js p
  | .give _ _, h => ⟨h.1, h.2.l⟩
  | .ask _ _ _, h => ⟨h.1, trivial, h.2.2.1, fun t ht => (h.2.2.2 t ht).l⟩
  | .tell _ _ _, h => ⟨⟨trivial, h.1.2⟩, h.2.1.l, aP.l h.2.2⟩
  | .lett _ _ _, h => ⟨⟨trivial, h.1.2⟩, h.2.1.l, aP.l h.2.2⟩
  | .iff _ _ _, h => ⟨h.1.l, aP.l h.2.1, aP.l h.2.2⟩
  | .post _ _ _ _, h => ⟨⟨trivial, h.1.2⟩, ⟨trivial, h.2.1.2⟩, aP.l h.2.2.1, aP.l h.2.2.2⟩
theorem aL_kids {ws js : List Str} {p : Pt} (h : aL ws js p) {u : Pt} (m : u ∈ innP p) : aL ws js u := by
  cases p with
  | give _ _ => cases m
  | ask _ _ _ => cases m
  | tell x t p => rw [List.mem_singleton.mp m]; exact h.2.2
  | lett x t p => rw [List.mem_singleton.mp m]; exact h.2.2
  | iff t p q =>
    rcases List.mem_cons.mp m with z | z
    · rw [z]; exact h.2.1
    · rw [List.mem_singleton.mp z]; exact h.2.2
  | post j x p q =>
    rcases List.mem_cons.mp m with z | z
    · rw [z]; exact h.2.2.1
    · rw [List.mem_singleton.mp z]; exact h.2.2.2
theorem aP_terms {ws js : List Str} {p : Pt} (h : aL ws js p) : ∀ t ∈ termsP p, TmL ws t := by
  intro t ht
  cases p with
  | give j u => rw [List.mem_singleton.mp ht]; exact h.2
  | ask f ts j => exact h.2.2.2 t ht
  | tell x u p => rw [List.mem_singleton.mp ht]; exact h.2.1
  | lett x u p => rw [List.mem_singleton.mp ht]; exact h.2.1
  | iff u p q => rw [List.mem_singleton.mp ht]; exact h.1
  | post j x p q => cases ht
theorem aP_tl {ws js : List Str} {p : Pt} (h : aL ws js p) : (termsP p).length ≤ 4 := by
  cases p with
  | ask f ts j => exact h.2.2.1
  | _ => simp [termsP]
theorem Tells.get {H : Hp} {d : Addr} {kvs : List (Key × V)} {g : Str → Str} {ys : List Str} (hd : H d = some (.dK kvs)) (h : Tells kvs g ys) {y : Str} (hy : y ∈ ys) : DGet H d (.str y) (some (.str (g y))) := by
  have e := h y hy
  rw [← e]
  exact DGet.k (k := Sum.inr y) hd
section
variable {P : Program} {w : World} {K : PySem.W.Frag} {mg : Str → Option Value} {base : Heap}
/-! ### _law_tcalled -/
def spTc (n : Nat) : Sp := fun vs H Q _ => ∃ (a d d2 : Addr) (p : Pt) (kvs kvs2 : List (Key × V)) (ws js : List Str) (g k : Str → Str), vs = [.ref a, .ref d, .ref d2] ∧ PAt H p a ∧ aL ws js p ∧ pcnt p ≤ n ∧ H d = some (.dK kvs) ∧ Tells kvs g ws ∧ H d2 = some (.dK kvs2) ∧ Tells kvs2 k js ∧
  ∀ b H', Same H H' → PAt H' (calP g k p) b → Q (.ref b) H'
abbrev s_law_tcalled : Stmt := top 38
theorem scLtcalled : FnScope ["part", "words", "posts", "inner", "one", "some"] ["part", "words", "posts"] (defScope s_law_tcalled) := ⟨rfl, rfl, rfl, by decide +kernel, rfl, by decide +kernel, by decide +kernel⟩
theorem ok_tc (T : Txt K mg) {n : Nat} {f f1 f2 f3 : Addr} {fd d1 d2 d3 : FuncData} (F : Fun K "_law_tcalled" "_law_tcalled" s_law_tcalled f fd) (G_law_tcalled : FnOk P w K mg base CX0 (n + 66) f fd ["part", "words", "posts"] (spTc n)) (R_law_tcalled : Ref K mg "_law_tcalled" f fd ["part", "words", "posts"])
    (G_law_inner : FnOk P w K mg base CX0 1 f1 d1 ["part"] spInn) (R_law_inner : Ref K mg "_law_inner" f1 d1 ["part"]) (G_law_simples : FnOk P w K mg base CX0 1 f2 d2 ["part"] spSmp) (R_law_simples : Ref K mg "_law_simples" f2 d2 ["part"])
    (G_law_called : FnOk P w K mg base CX0 65 f3 d3 ["term", "words"] (spCalled 64)) (R_law_called : Ref K mg "_law_called" f3 d3 ["term", "words"]) : FnOk P w K mg base CX0 (n + 67) f fd ["part", "words", "posts"] (spTc (n + 1)) := by
  refine F.ok scLtcalled (fun vs H Q E h => ?_) (fun cdv A outer s H vs Q E hr h => ?_)
  · obtain ⟨a, d, d2, p, kvs, kvs2, ws, js, g, k, rfl, _⟩ := h
    rfl
  obtain ⟨a, d, d2, p, kvs, kvs2, ws, js, g, k, rfl, hA, ha, hn, hd, hk, hd2, hk2, q⟩ := h
  refine ⟨_, (pss_cons (ps_set (i := 3) scLtcalled.nd rfl (Or.inl rfl) (pe_callTy call_tuple_of (by rfl) T.m_tuple (by decide +kernel) (pa_cons (pe_lc (own := [("one", 4)]) (g := gName 4) (tt := tYes) (te := tCall (spTc n) [] E0 (tCons (tVar 4) (tCons (tVar 1) (tCons (tVar 2) tNil)))) (by rfl) scLtcalled.nd (pi_tup (pe_call G_law_inner (hr.mono (by omega)) rfl R_law_inner.m R_law_inner.k R_law_inner.b .nil pass0 (pa_cons (pv 0) pa_nil))) (blkOk_by (own := [("one", 4)]) (N := ["part", "words", "posts", "inner", "one", "some"]) (sc := defScope s_law_tcalled) (by decide +kernel)) (fun _ _ _ _ _ => (pg_name (i := 4) scLtcalled.nd rfl (Or.inl rfl))) (fun _ _ _ _ _ => pts_nil) (fun _ _ _ _ _ => (pe_call G_law_tcalled hr rfl R_law_tcalled.m R_law_tcalled.k R_law_tcalled.b .nil pass0 (pa_cons (pv 4) (pa_cons (pv 1) (pa_cons (pv 2) pa_nil)))))) pa_nil)))
    (pss_cons (ps_set (i := 5) scLtcalled.nd rfl (Or.inl rfl) (pe_callTy call_tuple_of (by rfl) T.m_tuple (by decide +kernel) (pa_cons (pe_lc (own := [("one", 4)]) (g := gName 4) (tt := tYes) (te := tCall (spCalled 64) [] E0 (tCons (tVar 4) (tCons (tVar 1) tNil))) (by rfl) scLtcalled.nd (pi_tup (pe_call G_law_simples (hr.mono (by omega)) rfl R_law_simples.m R_law_simples.k R_law_simples.b .nil pass0 (pa_cons (pv 0) pa_nil))) (blkOk_by (own := [("one", 4)]) (N := ["part", "words", "posts", "inner", "one", "some"]) (sc := defScope s_law_tcalled) (by decide +kernel)) (fun _ _ _ _ _ => (pg_name (i := 4) scLtcalled.nd rfl (Or.inl rfl))) (fun _ _ _ _ _ => pts_nil) (fun _ _ _ _ _ => (pe_call G_law_called (hr.mono (by omega)) rfl R_law_called.m R_law_called.k R_law_called.b .nil pass0 (pa_cons (pv 4) (pa_cons (pv 1) pa_nil))))) pa_nil)))
    (pss_cons (ps_if (pt_cmpR op_eq (pe_ix ix_tup (pv 0) pe_int (fun _ _ => rfl)) pe_str (nomark _)) (pss_one (ps_ret (pe_tup (pa_cons pe_str (pa_cons (pe_dget (hu_of hr) (pv 2) (pe_ix ix_tup (pv 0) pe_int (fun _ _ => rfl)) (fun _ _ => rfl)) (pa_cons (pe_ix ix_tup (pv 5) pe_int (fun _ _ => rfl)) pa_nil)))))) pss_nil)
    (pss_cons (ps_if (pt_cmpR op_eq (pe_ix ix_tup (pv 0) pe_int (fun _ _ => rfl)) pe_str (nomark _)) (pss_one (ps_ret (pe_tup (pa_cons pe_str (pa_cons (pe_ix ix_tup (pv 0) pe_int (fun _ _ => rfl)) (pa_cons (pv 5) (pa_cons (pe_dget (hu_of hr) (pv 2) (pe_ix ix_tup (pv 0) pe_int (fun _ _ => rfl)) (fun _ _ => rfl)) pa_nil))))))) pss_nil)
    (pss_cons (ps_if (pt_cmpR op_eq (pe_ix ix_tup (pv 0) pe_int (fun _ _ => rfl)) pe_str (nomark _)) (pss_one (ps_ret (pe_op op_catA (pe_op op_catA (pe_tup (pa_cons pe_str pa_nil)) (pv 5)) (pv 3)))) pss_nil)
    (pss_cons (ps_if (pt_cmpR op_eq (pe_ix ix_tup (pv 0) pe_int (fun _ _ => rfl)) pe_str (nomark _)) (pss_one (ps_ret (pe_op op_catA (pe_tup (pa_cons pe_str (pa_cons (pe_dget (hu_of hr) (pv 2) (pe_ix ix_tup (pv 0) pe_int (fun _ _ => rfl)) (fun _ _ => rfl)) (pa_cons (pe_dget (hu_of hr) (pv 1) (pe_ix ix_tup (pv 0) pe_int (fun _ _ => rfl)) (fun _ _ => rfl)) pa_nil)))) (pv 3)))) pss_nil)
    (pss_one (ps_ret (pe_op op_catA (pe_op op_catA (pe_tup (pa_cons (pe_ix ix_tup (pv 0) pe_int (fun _ _ => rfl)) (pa_cons (pe_dget (hu_of hr) (pv 1) (pe_ix ix_tup (pv 0) pe_int (fun _ _ => rfl)) (fun _ _ => rfl)) pa_nil))) (pv 5)) (pv 3)))))))))), ?_⟩
  have hck := pcnt_inn p
  -- inner
  refine ⟨_, rfl, a, p, rfl, hA, fun pp H1 us1 s1 h1 k1 => ?_⟩
  have il : (innP p).length ≤ 2 := by cases p <;> simp [innP]
  refine ⟨pp, rfl, ⟨_, SqT.of h1⟩, fun D hD => lc_tup (K := K) (a := pp) (xs := us1) (fun i H' => Same H1 H' ∧ ∃ acc, H' D = some (.lst acc) ∧ All2 (PVr H') (((innP p).take i).map (calP g k)) acc) ⟨same_new hD _, [], upd_same, by rw [List.take_zero]; trivial⟩ ?_ ?_ ?_⟩
  · rintro i H' _ ⟨s2, _⟩
    exact SqT.of (s2 _ _ h1)
  · rintro i x H2 hx ⟨s2, acc, h2, k2⟩
    obtain ⟨u, hu, c, rfl, hcu⟩ := k1.get hx
    obtain ⟨hj, hj2⟩ := List.getElem?_eq_some_iff.mp hu
    have hmem := mem_of_get hu
    have hct := mem_sum hmem
    have hl2 := k2.len
    rw [List.length_map, List.length_take] at hl2
    refine ⟨rfl, ?_⟩
    dsimp only [tYes]
    have s02 := s1.trans s2
    refine iteT ⟨_, rfl, _, rfl, _, rfl, c, d, d2, u, kvs, kvs2, ws, js, g, k, rfl, PAt.tk (tk_same s2) hcu, aL_kids ha hmem, by omega, s02 _ _ hd, hk, s02 _ _ hd2, hk2, fun b H3 s3 hb => ?_⟩
    have h3 := s3 _ _ h2
    have tk := tk_put (o := .lst (acc ++ [.ref b])) h3
    refine ⟨acc, h3, Nat.lt_of_le_of_lt (m := 100) (by omega) (by decide), same_mut (s2.trans s3) hD, _, upd_same, ?_⟩
    rw [List.take_succ_eq_append_getElem hj, hj2, List.map_append]
    exact ((k2.imp fun _ _ z => PVr.tk (tk_same s3) z).imp fun _ _ z => PVr.tk tk z).app ⟨⟨b, rfl, PAt.tk tk hb⟩, trivial⟩
  rintro H2 ⟨s2, vi, h2, k2⟩
  rw [k1.len, List.take_length] at k2
  refine ⟨D, vi, rfl, .inl ⟨SqL.of h2, fun pi hpi => ?_⟩⟩
  have s3 := same_new hpi (.tup vi)
  have g3 : upd H2 pi (.tup vi) pi = some (.tup vi) := upd_same
  have s03 := s1.trans (s2.trans s3)
  have k3 := k2.imp fun _ _ z => PVr.tk (tk_same s3) z
  generalize upd H2 pi (.tup vi) = H3 at s3 g3 s03 k3
  clear k2 h2 k1 h1 hD s2 s3 hpi
  -- some
  refine ⟨_, rfl, a, p, rfl, PAt.tk (tk_same s03) hA, fun pp2 H4 us2 s4 h4 k4 => ?_⟩
  refine ⟨pp2, rfl, ⟨_, SqT.of h4⟩, fun D2 hD2 => lc_tup (K := K) (a := pp2) (xs := us2) (fun i H' => Same H4 H' ∧ ∃ acc, H' D2 = some (.lst acc) ∧ All2 (RefV H') (((termsP p).take i).map (calT g)) acc) ⟨same_new hD2 _, [], upd_same, by rw [List.take_zero]; trivial⟩ ?_ ?_ ?_⟩
  · rintro i H' _ ⟨s5, _⟩
    exact SqT.of (s5 _ _ h4)
  · rintro i x H5 hx ⟨s5, acc, h5, k5⟩
    obtain ⟨u, hu, c, rfl, hcu⟩ := k4.get hx
    obtain ⟨hj, hj2⟩ := List.getElem?_eq_some_iff.mp hu
    have hmem := mem_of_get hu
    have htw := aP_terms ha u hmem
    have hl2 := k5.len
    have hl3 := aP_tl ha
    rw [List.length_map, List.length_take] at hl2
    refine ⟨rfl, ?_⟩
    dsimp only [tYes]
    have s05 := s03.trans (s4.trans s5)
    refine iteT ⟨_, rfl, _, rfl, c, d, u, kvs, g, rfl, hcu.tk (tk_same s5), htw.s.ht, s05 _ _ hd, fun y hy => hk y (htw.c y hy), fun b H6 s6 hb => ?_⟩
    have h6 := s6 _ _ h5
    have tk := tk_put (o := .lst (acc ++ [.ref b])) h6
    refine ⟨acc, h6, Nat.lt_of_le_of_lt (m := 100) (by omega) (by decide), same_mut (s5.trans s6) hD2, _, upd_same, ?_⟩
    rw [List.take_succ_eq_append_getElem hj, hj2, List.map_append]
    exact ((k5.imp fun _ _ z => RefV.tk (tk_same s6) z).imp fun _ _ z => RefV.tk tk z).app ⟨⟨b, rfl, hb.tk tk⟩, trivial⟩
  rintro H5 ⟨s5, vt, h5, k5⟩
  rw [k4.len, List.take_length] at k5
  refine ⟨D2, vt, rfl, .inl ⟨SqL.of h5, fun ps hps => ?_⟩⟩
  have s6 := same_new hps (.tup vt)
  have g6 : upd H5 ps (.tup vt) ps = some (.tup vt) := upd_same
  have s36 := s4.trans (s5.trans s6)
  have s06 := s03.trans s36
  have k6 := k5.imp fun _ _ z => RefV.tk (tk_same s6) z
  have g36 := s36 _ _ g3
  have k36 := k3.imp fun _ _ z => PVr.tk (tk_same s36) z
  generalize upd H5 ps (.tup vt) = H6 at s6 g6 s36 s06 k6 g36 k36
  clear k5 h5 k4 h4 hD2 s4 s5 s6 hps k3 g3 s36
  have hA6 := PAt.tk (tk_same s06) hA
  have hd6 := s06 _ _ hd
  have hd26 := s06 _ _ hd2
  have lt := k6.len
  have li := k36.len
  rw [List.length_map] at lt li
  cases p with
  | give j t =>
    obtain ⟨b, h1, h2⟩ := hA6
    match vt, k6 with
    | [v1], ⟨⟨b1, e1, r1⟩, _⟩ =>
      subst e1
      refine ⟨_, rfl, a, _, _, _, rfl, rfl, SqT.of h1, at0, rfl, _, rfl, itT rfl ?_⟩
      refine ⟨_, rfl, _, rfl, a, _, _, _, rfl, rfl, SqT.of h1, at1, d2, _, rfl, hk2.get hd26 ha.1, _, rfl, ps, _, _, _, rfl, rfl, SqT.of g6, at0, sz (by show 3 ≤ 100000; decide), fun p2 hp2 => ?_⟩
      have s7 := same_new hp2 (.tup [V.str "give", .str (k j), .ref b1])
      exact q p2 _ (s06.trans s7) ⟨b1, upd_same, r1.tk (tk_same s7)⟩
  | ask f0 ts j =>
    obtain ⟨b, vs1, h1, h2, h3⟩ := hA6
    refine ⟨_, rfl, a, _, _, _, rfl, rfl, SqT.of h1, at0, rfl, _, rfl, itF rfl ⟨_, rfl, a, _, _, _, rfl, rfl, SqT.of h1, at0, rfl, _, rfl, itT rfl ?_⟩⟩
    refine ⟨_, rfl, a, _, _, _, rfl, rfl, SqT.of h1, at1, _, rfl, _, rfl, _, rfl, a, _, _, _, rfl, rfl, SqT.of h1, at3, d2, _, rfl, hk2.get hd26 ha.1, sz (by show 4 ≤ 100000; decide), fun p2 hp2 => ?_⟩
    have s7 := same_new hp2 (.tup [V.str "ask", .str f0, .ref ps, .str (k j)])
    exact q p2 _ (s06.trans s7) ⟨ps, vt, upd_same, s7 _ _ g6, k6.imp fun _ _ z => RefV.tk (tk_same s7) z⟩
  | iff t p1 p2 =>
    obtain ⟨b, c, e, h1, h2, h3, h4⟩ := hA6
    match vt, k6, vi, k36 with
    | [v1], ⟨⟨b1, e1, r1⟩, _⟩, [u1, u2], ⟨⟨c1, e2, r2⟩, ⟨c2, e3, r3⟩, _⟩ =>
      subst e1 e2 e3
      refine ⟨_, rfl, a, _, _, _, rfl, rfl, SqT.of h1, at0, rfl, _, rfl, itF rfl ⟨_, rfl, a, _, _, _, rfl, rfl, SqT.of h1, at0, rfl, _, rfl, itF rfl ⟨_, rfl, a, _, _, _, rfl, rfl, SqT.of h1, at0, rfl, _, rfl, itT rfl ?_⟩⟩⟩
      refine ⟨sz (by show 1 ≤ 100000; decide), fun t1 ht1 => ?_⟩
      have s7 := same_new ht1 (.tup [V.str "if"])
      refine ⟨_, rfl, catA_of upd_same (s7 _ _ g6) (by show 1 + 1 ≤ 100000; decide) fun t2 H8 s8 g8 => ?_⟩
      refine ⟨_, rfl, catA_of g8 ((s7.trans s8) _ _ g36) (by show 2 + 2 ≤ 100000; decide) fun t3 H9 s9 g9 => ?_⟩
      have s79 := s7.trans (s8.trans s9)
      exact q t3 H9 (s06.trans s79) ⟨b1, c1, c2, g9, r1.tk (tk_same s79), PAt.tk (tk_same s79) r2, PAt.tk (tk_same s79) r3⟩
  | post j x p1 p2 =>
    obtain ⟨c, e, h1, h2, h3⟩ := hA6
    match vi, k36 with
    | [u1, u2], ⟨⟨c1, e2, r2⟩, ⟨c2, e3, r3⟩, _⟩ =>
      subst e2 e3
      refine ⟨_, rfl, a, _, _, _, rfl, rfl, SqT.of h1, at0, rfl, _, rfl, itF rfl ⟨_, rfl, a, _, _, _, rfl, rfl, SqT.of h1, at0, rfl, _, rfl, itF rfl ⟨_, rfl, a, _, _, _, rfl, rfl, SqT.of h1, at0, rfl, _, rfl, itF rfl ⟨_, rfl, a, _, _, _, rfl, rfl, SqT.of h1, at0, rfl, _, rfl, itT rfl ?_⟩⟩⟩⟩
      refine ⟨_, rfl, _, rfl, a, _, _, _, rfl, rfl, SqT.of h1, at1, d2, _, rfl, hk2.get hd26 ha.1.2, _, rfl, _, rfl, a, _, _, _, rfl, rfl, SqT.of h1, at2, d, _, rfl, hk.get hd6 ha.2.1.2, sz (by show 3 ≤ 100000; decide), fun t1 ht1 => ?_⟩
      have s7 := same_new ht1 (.tup [V.str "post", .str (k j), .str (g x)])
      refine ⟨_, rfl, catA_of upd_same (s7 _ _ g36) (by show 3 + 2 ≤ 100000; decide) fun t2 H8 s8 g8 => ?_⟩
      have s78 := s7.trans s8
      exact q t2 H8 (s06.trans s78) ⟨c1, c2, g8, PAt.tk (tk_same s78) r2, PAt.tk (tk_same s78) r3⟩
  | tell x t p1 =>
    obtain ⟨b, c, h1, h2, h3⟩ := hA6
    match vt, k6, vi, k36 with
    | [v1], ⟨⟨b1, e1, r1⟩, _⟩, [u1], ⟨⟨c1, e2, r2⟩, _⟩ =>
      subst e1 e2
      refine ⟨_, rfl, a, _, _, _, rfl, rfl, SqT.of h1, at0, rfl, _, rfl, itF rfl ⟨_, rfl, a, _, _, _, rfl, rfl, SqT.of h1, at0, rfl, _, rfl, itF rfl ⟨_, rfl, a, _, _, _, rfl, rfl, SqT.of h1, at0, rfl, _, rfl, itF rfl ⟨_, rfl, a, _, _, _, rfl, rfl, SqT.of h1, at0, rfl, _, rfl, itF rfl ?_⟩⟩⟩⟩
      refine ⟨_, rfl, a, _, _, _, rfl, rfl, SqT.of h1, at0, _, rfl, _, rfl, a, _, _, _, rfl, rfl, SqT.of h1, at1, d, _, rfl, hk.get hd6 ha.1.2, sz (by show 2 ≤ 100000; decide), fun t1 ht1 => ?_⟩
      have s7 := same_new ht1 (.tup [V.str "tell", .str (g x)])
      refine ⟨_, rfl, catA_of upd_same (s7 _ _ g6) (by show 2 + 1 ≤ 100000; decide) fun t2 H8 s8 g8 => ?_⟩
      refine ⟨_, rfl, catA_of g8 ((s7.trans s8) _ _ g36) (by show 3 + 1 ≤ 100000; decide) fun t3 H9 s9 g9 => ?_⟩
      have s79 := s7.trans (s8.trans s9)
      exact q t3 H9 (s06.trans s79) ⟨b1, c1, g9, r1.tk (tk_same s79), PAt.tk (tk_same s79) r2⟩
  | lett x t p1 =>
    obtain ⟨b, c, h1, h2, h3⟩ := hA6
    match vt, k6, vi, k36 with
    | [v1], ⟨⟨b1, e1, r1⟩, _⟩, [u1], ⟨⟨c1, e2, r2⟩, _⟩ =>
      subst e1 e2
      refine ⟨_, rfl, a, _, _, _, rfl, rfl, SqT.of h1, at0, rfl, _, rfl, itF rfl ⟨_, rfl, a, _, _, _, rfl, rfl, SqT.of h1, at0, rfl, _, rfl, itF rfl ⟨_, rfl, a, _, _, _, rfl, rfl, SqT.of h1, at0, rfl, _, rfl, itF rfl ⟨_, rfl, a, _, _, _, rfl, rfl, SqT.of h1, at0, rfl, _, rfl, itF rfl ?_⟩⟩⟩⟩
      refine ⟨_, rfl, a, _, _, _, rfl, rfl, SqT.of h1, at0, _, rfl, _, rfl, a, _, _, _, rfl, rfl, SqT.of h1, at1, d, _, rfl, hk.get hd6 ha.1.2, sz (by show 2 ≤ 100000; decide), fun t1 ht1 => ?_⟩
      have s7 := same_new ht1 (.tup [V.str "let", .str (g x)])
      refine ⟨_, rfl, catA_of upd_same (s7 _ _ g6) (by show 2 + 1 ≤ 100000; decide) fun t2 H8 s8 g8 => ?_⟩
      refine ⟨_, rfl, catA_of g8 ((s7.trans s8) _ _ g36) (by show 3 + 1 ≤ 100000; decide) fun t3 H9 s9 g9 => ?_⟩
      have s79 := s7.trans (s8.trans s9)
      exact q t3 H9 (s06.trans s79) ⟨b1, c1, g9, r1.tk (tk_same s79), PAt.tk (tk_same s79) r2⟩
theorem no_tc {f : Addr} {fd : FuncData} : FnOk P w K mg base CX0 66 f fd ["part", "words", "posts"] (spTc 0) := by
  have no : ∀ vs H Q E, ¬ spTc 0 vs H Q E := fun vs H Q E h => by
    obtain ⟨a, d, d2, p, kvs, kvs2, ws, js, g, k, _, _, _, h0, _⟩ := h
    have := pcnt_inn p
    omega
  exact ⟨fun vs H Q E h => absurd h (no vs H Q E), fun A outer s H args us vs Q E _ _ _ _ h => absurd h (no vs H Q E)⟩
theorem all_tc (T : Txt K mg) {f f1 f2 f3 : Addr} {fd d1 d2 d3 : FuncData} (F : Fun K "_law_tcalled" "_law_tcalled" s_law_tcalled f fd) (R_law_tcalled : Ref K mg "_law_tcalled" f fd ["part", "words", "posts"])
    (G_law_inner : FnOk P w K mg base CX0 1 f1 d1 ["part"] spInn) (R_law_inner : Ref K mg "_law_inner" f1 d1 ["part"]) (G_law_simples : FnOk P w K mg base CX0 1 f2 d2 ["part"] spSmp) (R_law_simples : Ref K mg "_law_simples" f2 d2 ["part"])
    (G_law_called : FnOk P w K mg base CX0 65 f3 d3 ["term", "words"] (spCalled 64)) (R_law_called : Ref K mg "_law_called" f3 d3 ["term", "words"]) : ∀ n : Nat, FnOk P w K mg base CX0 (n + 66) f fd ["part", "words", "posts"] (spTc n)
  | 0 => no_tc
  | n + 1 => ok_tc T F (all_tc T F R_law_tcalled G_law_inner R_law_inner G_law_simples R_law_simples G_law_called R_law_called n) R_law_tcalled G_law_inner R_law_inner G_law_simples R_law_simples G_law_called R_law_called
end
end KB.N

namespace KB.N
open PySem PySem.Spec PyProof.Rows L2

/-! ### {**d, k: v} -/
section
variable {prog : Program} {w : World} {K : Type} [DecidableEq K] {knd : KeyKind prog w K} {A : Around} {E : Value → Shared → Prop} {s : Shared}
end
section
variable {X : Cx}
end
end KB.N

namespace KB.N
open PySem PySem.Spec PyProof.Rows L2 LamX NdefX

/-! ### a def whose code object is known -/
section
variable {P : Program} {w : World} {K : PySem.W.Frag} {mg : Str → Option Value} {base : Heap}
end
end KB.N

namespace KB.N
open PySem L2 HT LamX NdefX

theorem RAtL.app {H : Hp} : ∀ {ds es : List PyData} {vs us : List V}, RAtL H ds vs → RAtL H es us → RAtL H (ds ++ es) (vs ++ us)
  | _, _, _, _, .nil, h => h
  | _, _, _, _, .cons a b, h => .cons a (b.app h)
structure AnL (e : TEr) : Prop where
  nl : e.2.1.length ≤ 4
  a : aL (wsE e) ("home" :: jsE e) e.2.2
  cn : pcnt e.2.2 ≤ 161
  nh : ("home" : Str) ∉ jsE e
theorem AnE.l {e : TEr} (h : AnE e) : AnL e := ⟨h.nl, h.a.l, h.cn, fun z => not_home (aP_jw h.a _ z).1 rfl⟩
theorem AnL.wl {e : TEr} (h : AnL e) : (wsE e).length ≤ 165 := by
  have h1 := wP_len e.2.2
  have h2 := h.cn
  have h3 := h.nl
  show (e.2.1 ++ wP e.2.2).length ≤ 165
  rw [List.length_append]; omega
theorem AnL.jl {e : TEr} (h : AnL e) : (jsE e).length ≤ 161 := Nat.le_trans (jP_len _) h.cn
theorem AnL.gj {e : TEr} (h : AnL e) {j : Str} (hj : j ∈ jsE e) : j ≠ "home" ∧ gJ e j = numW (jsE e) j := by
  have h1 : j ≠ "home" := fun z => h.nh (by rw [← z]; exact hj)
  exact ⟨h1, if_neg h1⟩
section
variable {P : Program} {w : World} {K : PySem.W.Frag} {mg : Str → Option Value} {base : Heap}
/-! ### anew -/
/-! ### are_alike -/
/-! ### _law_anew -/
def spLan : Sp := fun vs H Q _ => ∃ (p : Addr) (es : List TEr) (us : List V), vs = [.ref p] ∧ TBkAt H es us p ∧ es.length ≤ 6 ∧ (∀ e ∈ es, AnL e) ∧ ∀ r H' us', Same H H' → TBkAt H' (es.map anewE) us' r → Q (.ref r) H'
abbrev s_law_anew : Stmt := top 40
theorem scLanew : FnScope ["turned", "found", "name", "names", "part", "words", "posts", "one"] ["turned"] (defScope s_law_anew) := ⟨rfl, rfl, rfl, by decide +kernel, rfl, by decide +kernel, by decide +kernel⟩
theorem ok_lan (T : Txt K mg) {f f1 f2 f3 f4 : Addr} {fd d1 d2 d3 d4 : FuncData} (F : Fun K "_law_anew" "_law_anew" s_law_anew f fd) (G_law_by_numbers : FnOk P w K mg base CX0 1 f1 d1 ["words"] spByN) (R_law_by_numbers : Ref K mg "_law_by_numbers" f1 d1 ["words"])
    (G_law_twords : FnOk P w K mg base CX0 162 f2 d2 ["part"] (spTw 161)) (R_law_twords : Ref K mg "_law_twords" f2 d2 ["part"]) (G_law_tposts : FnOk P w K mg base CX0 162 f3 d3 ["part"] (spTp 161)) (R_law_tposts : Ref K mg "_law_tposts" f3 d3 ["part"])
    (G_law_tcalled : FnOk P w K mg base CX0 227 f4 d4 ["part", "words", "posts"] (spTc 161)) (R_law_tcalled : Ref K mg "_law_tcalled" f4 d4 ["part", "words", "posts"]) : FnOk P w K mg base CX0 228 f fd ["turned"] spLan := by
  refine F.ok scLanew (fun vs H Q E h => ?_) (fun cdv A outer s H vs Q E hr h => ?_)
  · obtain ⟨p, es, us, rfl, _⟩ := h
    rfl
  obtain ⟨p, es, us, rfl, hB, hl6, hE, q⟩ := h
  refine ⟨_, (pss_cons (ps_set (i := 1) scLanew.nd rfl (Or.inl rfl) (pe_lst pa_nil))
    (pss_cons (ps_for PassesOwn.never rfl (pi_tup (pv 0)) (pg_tup rfl (pgs_cons (pg_name (i := 2) scLanew.nd rfl (Or.inl rfl)) (pgs_cons (pg_name (i := 3) scLanew.nd rfl (Or.inl rfl)) (pgs_cons (pg_name (i := 4) scLanew.nd rfl (Or.inl rfl)) pgs_nil)))) (pss_cons (ps_set (i := 5) scLanew.nd rfl (Or.inr rfl) (pe_call G_law_by_numbers (hr.mono (by omega)) rfl R_law_by_numbers.m R_law_by_numbers.k R_law_by_numbers.b .nil pass0 (pa_cons (pe_op op_cat (pe_callTy call_list_of (by rfl) T.m_list (by decide +kernel) (pa_cons (pv 3) pa_nil)) (pe_call G_law_twords (hr.mono (by omega)) rfl R_law_twords.m R_law_twords.k R_law_twords.b .nil pass0 (pa_cons (pv 4) pa_nil))) pa_nil)))
    (pss_cons (ps_set (i := 6) scLanew.nd rfl (Or.inl rfl) (pe_call G_law_by_numbers (hr.mono (by omega)) rfl R_law_by_numbers.m R_law_by_numbers.k R_law_by_numbers.b .nil pass0 (pa_cons (pe_call G_law_tposts (hr.mono (by omega)) rfl R_law_tposts.m R_law_tposts.k R_law_tposts.b .nil pass0 (pa_cons (pv 4) pa_nil)) pa_nil)))
    (pss_cons (ps_dput (hu_of hr) (pv 6) pe_str pe_str rfl)
    (pss_cons (ps_set (i := 3) scLanew.nd rfl (Or.inl rfl) (pe_callTy call_tuple_of (by rfl) T.m_tuple (by decide +kernel) (pa_cons (pe_lc (own := [("one", 7)]) (g := gName 7) (tt := tYes) (te := tDGet (tVar 5) (tVar 7)) (by rfl) scLanew.nd (pi_tup (pv 3)) (blkOk_by (own := [("one", 7)]) (N := ["turned", "found", "name", "names", "part", "words", "posts", "one"]) (sc := defScope s_law_anew) (by decide +kernel)) (fun _ _ _ _ _ => (pg_name (i := 7) scLanew.nd rfl (Or.inl rfl))) (fun _ _ _ _ _ => pts_nil) (fun _ _ _ _ _ => (pe_dget (hu_of hr) (pv 5) (pv 7) (fun _ _ => rfl)))) pa_nil)))
    (pss_one (ps_expr (pe_bm PySem.F.plainAttrs_list PySem.F.slot_list_append PySem.F.type_list_append mt_append (pv 1) (pa_cons (pe_tup (pa_cons (pv 2) (pa_cons (pv 3) (pa_cons (pe_call G_law_tcalled (hr.mono (by omega)) rfl R_law_tcalled.m R_law_tcalled.k R_law_tcalled.b .nil pass0 (pa_cons (pv 4) (pa_cons (pv 5) (pa_cons (pv 6) pa_nil)))) pa_nil)))) pa_nil)))))))))
    (pss_one (ps_ret (pe_callTy call_tuple_of (by rfl) T.m_tuple (by decide +kernel) (pa_cons (pv 1) pa_nil)))))), ?_⟩
  refine ⟨sz (by show 0 ≤ 100000; decide), fun fl hfl => ?_⟩
  have s0 := same_new hfl (.lst [])
  have f0 : upd H fl (.lst []) fl = some (.lst []) := upd_same
  generalize upd H fl (.lst []) = H0 at s0 f0
  refine ⟨_, rfl, p, rfl, ⟨_, SqT.of (s0 _ _ hB.1)⟩, for_tup (xs := us) (fun i σ H' => ∃ o2 o3 o4 o5 o6 acc, σ = [some (.ref p), some (.ref fl), o2, o3, o4, o5, o6, none] ∧ Same H H' ∧ H' fl = some (.lst acc) ∧ All2 (TErV H') ((es.take i).map anewE) acc) ?_ ?_ ?_ ?_⟩
  · exact ⟨_, _, _, _, _, [], rfl, s0, f0, by rw [List.take_zero]; trivial⟩
  · rintro i σ H' _ ⟨o2, o3, o4, o5, o6, acc, rfl, s1, _⟩
    exact SqT.of (s1 _ _ hB.1)
  · rintro i x σ H1 hx ⟨o2, o3, o4, o5, o6, acc, rfl, s1, h1, k1⟩
    obtain ⟨e, he, qa, r, b, rfl, g1, g2, g3⟩ := hB.2.get hx
    obtain ⟨hj, hj2⟩ := List.getElem?_eq_some_iff.mp he
    have hee := mem_of_get he
    have aE := hE e hee
    have hl := k1.len
    rw [List.length_map, List.length_take] at hl
    have r1 := s1 _ _ g2
    have p1 := PAt.tk (tk_same s1) g3
    refine ⟨qa, _, rfl, SqT.of (s1 _ _ g1), rfl, _, _, rfl, _, _, rfl, _, _, rfl, rfl, ?_⟩
    -- words
    refine ⟨_, rfl, r, _, rfl, .inr (SqT.of r1), fun l2 hl2 => ?_⟩
    have s2 := same_new hl2 (.lst (e.2.1.map V.str))
    have g5 : upd H1 l2 (.lst (e.2.1.map V.str)) l2 = some (.lst (e.2.1.map V.str)) := upd_same
    generalize upd H1 l2 (.lst (e.2.1.map V.str)) = H2 at s2 g5
    refine ⟨_, rfl, b, e.2.2, rfl, PAt.tk (tk_same s2) p1, aE.cn, Nat.le_trans aE.cn (by decide), fun l3 H3 hl3 s3 h3 => ?_⟩
    refine ⟨l2, l3, _, _, rfl, rfl, s3 _ _ g5, h3, sz ?_, fun l4 hl4 => ?_⟩
    · have := aE.wl
      have e1 : (wsE e).length = e.2.1.length + (wP e.2.2).length := List.length_append
      rw [List.length_map, List.length_map]
      omega
    have s4 := same_new hl4 (.lst (e.2.1.map V.str ++ (wP e.2.2).map V.str))
    have h4 : upd H3 l4 (.lst (e.2.1.map V.str ++ (wP e.2.2).map V.str)) l4 = some (.lst ((wsE e).map V.str)) := by
      rw [upd_same]
      show _ = some (HO.lst ((e.2.1 ++ wP e.2.2).map V.str))
      rw [List.map_append]
    generalize upd H3 l4 (.lst (e.2.1.map V.str ++ (wP e.2.2).map V.str)) = H4 at s4 h4
    have s24 := s2.trans (s3.trans s4)
    refine ⟨l4, wsE e, rfl, h4, Nat.le_trans aE.wl (by decide), fun d H5 kvs hd s5 h5 hkl hk => ?_⟩
    have s25 := s24.trans s5
    have s15 := s1.trans s25
    -- posts
    refine ⟨_, rfl, b, e.2.2, rfl, PAt.tk (tk_same s25) p1, aE.cn, Nat.le_trans aE.cn (by decide), fun l6 H6 hl6' s6 h6 => ?_⟩
    refine ⟨l6, jsE e, rfl, h6, Nat.le_trans aE.jl (by decide), fun d2 H7 kvs2 hd2 s7 h7 hkl2 hk2 => ?_⟩
    have s57 := s6.trans s7
    have hd25 : H5 d2 = none := s6.free hd2
    have n12 : d ≠ d2 := ne_of_none h5 hd25
    refine ⟨_, rfl, d2, _, rfl, DPut.k (k := Sum.inr ("home" : Str)) h7 (Nat.lt_of_le_of_lt (m := 4000) (by have := aE.jl; omega) (by decide)), ?_⟩
    have s58 : Same H5 (upd H7 d2 (.dK (putK kvs2 (Sum.inr ("home" : Str)) (.str "home")))) := same_mut s57 hd25
    have h8 : upd H7 d2 (.dK (putK kvs2 (Sum.inr ("home" : Str)) (.str "home"))) d2 = some (.dK (putK kvs2 (Sum.inr ("home" : Str)) (.str "home"))) := upd_same
    have t78 : TK H7 (upd H7 d2 (.dK (putK kvs2 (Sum.inr ("home" : Str)) (.str "home")))) := fun a xs z => by
      by_cases c : a = d2
      · rw [c, h7] at z; cases z
      · rw [upd_ne c]; exact z
    generalize upd H7 d2 (.dK (putK kvs2 (Sum.inr ("home" : Str)) (.str "home"))) = H8 at s58 h8 t78
    have hJ : Tells (putK kvs2 (Sum.inr ("home" : Str)) (.str "home")) (gJ e) ("home" :: jsE e) := fun j hj => by
      rw [valV_put]
      rcases List.mem_cons.mp hj with z | z
      · rw [z, if_pos rfl, gJ_home]
      · rw [if_neg (fun y => (aE.gj z).1 (Sum.inr.inj y)), (aE.gj z).2]
        exact hk2 j z
    have s18 : Same H1 H8 := s25.trans s58
    have s08 := s1.trans s18
    have d8 := s58 _ _ h5
    -- names
    refine ⟨_, rfl, r, rfl, ⟨_, SqT.of (s18 _ _ r1)⟩, fun D hD => lc_tup (K := K) (a := r) (xs := e.2.1.map V.str) (fun i H' => Same H8 H' ∧ H' D = some (.lst ((e.2.1.take i).map fun x => V.str (gW e x)))) ⟨same_new hD _, by rw [List.take_zero]; exact upd_same⟩ ?_ ?_ ?_⟩
    · rintro i H' _ ⟨s9, _⟩
      exact SqT.of ((s18.trans s9) _ _ r1)
    · rintro i x H9 hx ⟨s9, h9⟩
      rw [List.getElem?_map] at hx
      obtain ⟨y, hy, rfl⟩ : ∃ y, e.2.1[i]? = some y ∧ V.str y = x := by
        cases e0 : e.2.1[i]? with
        | none => rw [e0] at hx; cases hx
        | some y => rw [e0] at hx; exact ⟨y, rfl, Option.some.inj hx⟩
      obtain ⟨hj, hj2⟩ := List.getElem?_eq_some_iff.mp hy
      refine ⟨rfl, ?_⟩
      dsimp only [tYes]
      refine iteT ⟨_, rfl, _, rfl, d, _, rfl, Tells.get (s9 _ _ d8) hk (List.mem_append_left _ (mem_of_get hy)), _, h9, ?_, same_mut s9 hD, ?_⟩
      · rw [List.length_map, List.length_take]
        have := aE.nl
        exact Nat.lt_of_le_of_lt (m := 4) (by omega) (by decide)
      · rw [upd_same, List.take_succ_eq_append_getElem hj, hj2, List.map_append]
        rfl
    rintro H9 ⟨s9, h9⟩
    rw [List.length_map, List.take_length] at h9
    refine ⟨D, _, rfl, .inl ⟨SqL.of h9, fun t0 ht0 => ?_⟩⟩
    have s10 := same_new ht0 (.tup (e.2.1.map fun x => V.str (gW e x)))
    have h10 : upd H9 t0 (.tup (e.2.1.map fun x => V.str (gW e x))) t0 = some (.tup ((e.2.1.map (gW e)).map V.str)) := by
      rw [upd_same, List.map_map]
      rfl
    generalize upd H9 t0 (.tup (e.2.1.map fun x => V.str (gW e x))) = H10 at s10 h10
    have s8a := s9.trans s10
    have s1a := s18.trans s8a
    -- the part
    refine ⟨_, rfl, .inl ⟨rfl, _, SqL.of (s1a _ _ h1)⟩, _, rfl, _, rfl, _, rfl, _, rfl, _, rfl, b, d, d2, e.2.2, kvs, _, wsE e, _, gW e, gJ e, rfl, PAt.tk (tk_same s1a) p1, aE.a, aE.cn, s8a _ _ d8, hk, s8a _ _ h8, hJ, fun b2 H11 s11 hb2 => ?_⟩
    refine ⟨sz (by show 3 ≤ 100000; decide), fun t1 ht1 => ?_⟩
    have s12 := same_new ht1 (.tup [.str e.1, .ref t0, .ref b2])
    have h12 : upd H11 t1 (.tup [.str e.1, .ref t0, .ref b2]) t1 = some (.tup [.str e.1, .ref t0, .ref b2]) := upd_same
    generalize upd H11 t1 (.tup [.str e.1, .ref t0, .ref b2]) = H12 at s12 h12
    have s1c := s1a.trans (s11.trans s12)
    have f12 := s1c _ _ h1
    refine ⟨fl, _, _, rfl, rfl, f12, Nat.lt_of_le_of_lt (m := 6) (by omega) (by decide), ?_⟩
    have tk := tk_put (o := .lst (acc ++ [V.ref t1])) f12
    refine ⟨_, _, _, _, _, _, rfl, same_mut (s1.trans s1c) hfl, upd_same, ?_⟩
    rw [List.take_succ_eq_append_getElem hj, hj2, List.map_append]
    have all := k1.imp fun _ _ z => (TErV.tk (tk_same s1c) z).tk tk
    exact all.app ⟨⟨t1, t0, b2, rfl, tk _ _ h12, tk _ _ (s12 _ _ (s11 _ _ h10)), PAt.tk ((tk_same s12).trans tk) hb2⟩, trivial⟩
  · rintro σ H1 ⟨o2, o3, o4, o5, o6, acc, rfl, s1, h1, k1⟩
    rw [hB.2.len, List.take_length] at k1
    refine ⟨_, rfl, fl, acc, rfl, .inl ⟨SqL.of h1, fun t0 ht0 => ?_⟩⟩
    have s2 := same_new ht0 (.tup acc)
    exact q t0 _ acc (s1.trans s2) ⟨upd_same, k1.imp fun _ _ z => TErV.tk (tk_same s2) z⟩
end
end KB.N

namespace KB
open PySem L2

/-! ### what the turning of a term leaves, told by the term -/
mutual
inductive CpS (tk : List Str) : Tm → Nat → List Ld → Tm → Nat → Prop
  | leaf {t m} : (∃ z, hdT t = .num z) ∨ (∃ x, hdT t = .nam x) → CpS tk t m [] t m
  | op {t m ls sa sb m2} {l : Bool} : hdT t = (if l = true then Hd.less else Hd.plus) → CpL tk (kidsT t) m ls [sa, sb] m2 → CpS tk t m ls (mkOp l sa sb) m2
  | lett {t y a b m la m1 lb s m2} : hdT t = .lett y → kidsT t = [a, b] → CpP tk a y m la m1 → m ≤ m1 → CpS tk b m1 lb s m2 → CpS tk t m (la ++ lb) s m2
  | word {t m w m1 ls m2} : wordS (hdT t) = true → NwR tk m w m1 → CpP tk t w m1 ls m2 → CpS tk t m ls (mkL (.nam w) []) m2
inductive CpP (tk : List Str) : Tm → Str → Nat → List Ld → Nat → Prop
  | lett {t x y a b m la m1 lb m2} : hdT t = .lett y → kidsT t = [a, b] → CpP tk a y m la m1 → m ≤ m1 → CpP tk b x m1 lb m2 → CpP tk t x m (la ++ lb) m2
  | ask {t f x w m m1 la ss m2} : hdT t = .ask f → NwR tk m w m1 → CpL tk (kidsT t) m1 la ss m2 → CpP tk t x m (la ++ [.post w x (.ask f ss w)]) m2
  | iff {t x w a b c m m1 la s m2 lb qb m3 lc qc m4} : hdT t = .iff → kidsT t = [a, b, c] → NwR tk m w m1 → CpS tk a m1 la s m2 → CpD tk b w m2 lb qb m3 → m2 ≤ m3 → CpD tk c w m3 lc qc m4 → m3 ≤ m4 →
      CpP tk t x m (la ++ [.post w x (.iff s (putAh lb qb) (putAh lc qc))]) m4
  | tell {t x a m la s m1} : hdT t = .tell → kidsT t = [a] → CpS tk a m la s m1 → CpP tk t x m (la ++ [.tell x s]) m1
  | plain {t x m la s m1} : plainH (hdT t) = true → CpS tk t m la s m1 → CpP tk t x m (la ++ [.lett x s]) m1
inductive CpD (tk : List Str) : Tm → Str → Nat → List Ld → Pt → Nat → Prop
  | lett {t j y a b m la m1 lb q m2} : hdT t = .lett y → kidsT t = [a, b] → CpP tk a y m la m1 → m ≤ m1 → CpD tk b j m1 lb q m2 → CpD tk t j m (la ++ lb) q m2
  | ask {t f j m la ss m1} : hdT t = .ask f → CpL tk (kidsT t) m la ss m1 → CpD tk t j m la (.ask f ss j) m1
  | iff {t j a b c m la s m2 lb qb m3 lc qc m4} : hdT t = .iff → kidsT t = [a, b, c] → CpS tk a m la s m2 → CpD tk b j m2 lb qb m3 → m2 ≤ m3 → CpD tk c j m3 lc qc m4 →
      CpD tk t j m la (.iff s (putAh lb qb) (putAh lc qc)) m4
  | give {t j m la s m1} : lazyH (hdT t) = false → wordH (hdT t) = false → CpS tk t m la s m1 → CpD tk t j m la (.give j s) m1
inductive CpL (tk : List Str) : List Tm → Nat → List Ld → List Tm → Nat → Prop
  | nil {m} : CpL tk [] m [] [] m
  | cons {t ts m la s m1 lb ss m2} : CpS tk t m la s m1 → m ≤ m1 → CpL tk ts m1 lb ss m2 → CpL tk (t :: ts) m (la ++ lb) (s :: ss) m2
end
theorem CpL.len {tk : List Str} : ∀ {ts : List Tm} {m : Nat} {ls : List Ld} {ss : List Tm} {m2 : Nat}, CpL tk ts m ls ss m2 → ss.length = ts.length
  | [], _, _, _, _, .nil => rfl
  | _ :: _, _, _, _, _, .cons _ _ h => by rw [List.length_cons, List.length_cons, h.len]
theorem NwR.lt {tk : List Str} {m m1 : Nat} {w : Str} (h : NwR tk m w m1) : m ≤ m1 := by
  obtain ⟨k, h1, _, _, _, rfl, _⟩ := h
  omega
/-- the count of new words never falls -/
theorem Run.up {tk : List Str} {J : List Jb} {R G m R2 G2 m2} (h : Run tk J R G m R2 G2 m2) : m ≤ m2 := by
  induction h with
  | nil => exact Nat.le_refl _
  | fin _ _ ih => exact ih
  | done _ ih => exact ih
  | @put t _ w _ _ _ m m1 _ _ _ h1 h2 _ ih =>
    cases c : wordH (hdT t) with
    | true => exact Nat.le_trans (h1 c).lt ih
    | false => rw [h2 c] at ih; exact ih
  | @simple t w _ _ _ m m1 _ _ _ h1 h2 _ ih =>
    cases c : wordS (hdT t) with
    | true => exact Nat.le_trans (h1 c).lt ih
    | false => rw [h2 c] at ih; exact ih
/-- each part has as many parts as its kind says -/
def arA : Tm → Prop
  | .mk h n k => arH h n ∧ ∀ i, arA (k i)
theorem arA.kid {t u : Tm} (h : arA t) (e : u ∈ kidsT t) : arA u := by
  obtain ⟨hd, n, k⟩ := t
  obtain ⟨i, rfl⟩ := List.mem_ofFn.mp e
  exact h.2 i
theorem arA.len {t : Tm} (h : arA t) : arH (hdT t) (kidsT t).length := by
  obtain ⟨hd, n, k⟩ := t
  show arH hd (List.ofFn k).length
  rw [List.length_ofFn]
  exact h.1
theorem cnt_kid {t u : Tm} (e : u ∈ kidsT t) : cnt u < cnt t := by
  rw [cnt_kids t]
  have : ∀ {l : List Tm}, u ∈ l → cnt u ≤ cnts l := by
    intro l
    induction l with
    | nil => intro h; cases h
    | cons a r ih =>
      intro h
      rw [cnts_cons]
      rcases List.mem_cons.mp h with rfl | h
      · omega
      · have := ih h; omega
  have := this e
  omega
theorem Run.nil_eq {tk : List Str} {R G m R2 G2 m2} (h : Run tk [] R G m R2 G2 m2) : R2 = R ∧ G2 = G ∧ m2 = m := by
  cases h
  exact ⟨rfl, rfl, rfl⟩
def finJ : Jb → Bool
  | .done _ _ => false
  | .put _ _ => false
  | .simple _ => false
  | _ => true
theorem Run.one_fin {tk : List Str} {j : Jb} {R G m R2 G2 m2} (hj : finJ j = true) (h : Run tk [j] R G m R2 G2 m2) : FinJ j R G R2 G2 ∧ m2 = m := by
  cases h with
  | fin f h =>
    obtain ⟨rfl, rfl, rfl⟩ := h.nil_eq
    exact ⟨f, rfl⟩
  | done => exact absurd hj Bool.false_ne_true
  | put => exact absurd hj Bool.false_ne_true
  | simple => exact absurd hj Bool.false_ne_true
theorem fin_ask {f j : Str} {n : Nat} {R G R2 G2} (h : FinJ (.ask f n j) R G R2 G2) : ∃ (ts : List Tm) (G' : List Gt), ts.length = n ∧ G = (ts.map Gt.t).reverse ++ G' ∧ R2 = R ∧ G2 = .p (.ask f ts j) :: G' := by
  cases h
  exact ⟨_, _, rfl, rfl, rfl, rfl⟩
theorem map_t_inj {a b : List Tm} (h : a.map Gt.t = b.map Gt.t) : a = b := by
  induction a generalizing b with
  | nil => cases b with
    | nil => rfl
    | cons _ _ => cases h
  | cons x a ih => cases b with
    | nil => cases h
    | cons y b =>
      obtain ⟨h1, h2⟩ := List.cons.inj h
      rw [Gt.t.inj h1, ih h2]
def ComS (tk : List Str) (t : Tm) : Prop := ∀ r R G m R2 G2 m2, Run tk [.simple t] (r :: R) G m R2 G2 m2 → ∃ ls s, R2 = (r ++ ls) :: R ∧ G2 = .t s :: G ∧ CpS tk t m ls s m2
def ComP (tk : List Str) (t : Tm) : Prop := ∀ x r R G m R2 G2 m2, Run tk [.put t x] (r :: R) G m R2 G2 m2 → ∃ ls, R2 = (r ++ ls) :: R ∧ G2 = G ∧ CpP tk t x m ls m2
def ComD (tk : List Str) (t : Tm) : Prop := ∀ j r R G m R2 G2 m2, Run tk [.done t j] (r :: R) G m R2 G2 m2 → ∃ ls q, R2 = R ∧ G2 = .p (putAh (r ++ ls) q) :: G ∧ CpD tk t j m ls q m2
theorem comL {tk : List Str} : ∀ {ts : List Tm}, (∀ t ∈ ts, ComS tk t) → ∀ {r R G m R2 G2 m2}, Run tk (ts.map Jb.simple) (r :: R) G m R2 G2 m2 → ∃ ls ss, R2 = (r ++ ls) :: R ∧ G2 = (ss.map Gt.t).reverse ++ G ∧ CpL tk ts m ls ss m2
  | [], _, r, R, G, m, R2, G2, m2, h => by
    obtain ⟨rfl, rfl, rfl⟩ := h.nil_eq
    exact ⟨[], [], by rw [List.append_nil], rfl, .nil⟩
  | t :: ts, ih, r, R, G, m, R2, G2, m2, h => by
    obtain ⟨R1, G1, m1, h1, h2⟩ := h.split (J1 := [.simple t]) (J2 := ts.map Jb.simple) rfl
    obtain ⟨la, s, rfl, rfl, c1⟩ := ih t List.mem_cons_self _ _ _ _ _ _ _ h1
    obtain ⟨lb, ss, rfl, rfl, c2⟩ := comL (fun u hu => ih u (List.mem_cons_of_mem _ hu)) h2
    exact ⟨la ++ lb, s :: ss, by rw [List.append_assoc], by simp, .cons c1 h1.up c2⟩
/-- an if's two sides, each in a row of its own -/
theorem comI {tk : List Str} {b c : Tm} (hb : ComD tk b) (hc : ComD tk c) {j : Str} {s : Tm} {R G m R2 G2 m2} (h : Run tk [.row, .done b j, .row, .done c j, .iff] R (.t s :: G) m R2 G2 m2) :
    ∃ lb qb m3 lc qc, R2 = R ∧ G2 = .p (.iff s (putAh lb qb) (putAh lc qc)) :: G ∧ CpD tk b j m lb qb m3 ∧ m ≤ m3 ∧ CpD tk c j m3 lc qc m2 ∧ m3 ≤ m2 := by
  obtain ⟨R1, G1, m1, h1, h⟩ := h.split (J1 := [.row]) (J2 := [.done b j, .row, .done c j, .iff]) rfl
  obtain ⟨f1, rfl⟩ := h1.one_fin rfl
  cases f1
  obtain ⟨R1, G1, m1, h1, h⟩ := h.split (J1 := [.done b j]) (J2 := [.row, .done c j, .iff]) rfl
  obtain ⟨lb, qb, rfl, rfl, c1⟩ := hb _ _ _ _ _ _ _ _ h1
  obtain ⟨R2', G2', m2', h2, h⟩ := h.split (J1 := [.row]) (J2 := [.done c j, .iff]) rfl
  obtain ⟨f1, rfl⟩ := h2.one_fin rfl
  cases f1
  obtain ⟨R3, G3, m3, h3, h⟩ := h.split (J1 := [.done c j]) (J2 := [.iff]) rfl
  obtain ⟨lc, qc, rfl, rfl, c2⟩ := hc _ _ _ _ _ _ _ _ h3
  obtain ⟨f1, rfl⟩ := h.one_fin rfl
  cases f1
  exact ⟨lb, qb, _, lc, qc, rfl, rfl, c1, h1.up, c2, h3.up⟩
theorem comp_ (tk : List Str) (n : Nat) : ∀ t, cnt t ≤ n → arA t → ComS tk t ∧ ComP tk t ∧ ComD tk t := by
  induction n with
  | zero =>
    intro t h
    have := cnt_pos t
    omega
  | succ n ih =>
    intro t hn ha
    have kd : ∀ u ∈ kidsT t, ComS tk u ∧ ComP tk u ∧ ComD tk u := fun u hu => ih u (by have := cnt_kid hu; omega) (ha.kid hu)
    have har := ha.len
    -- the kinds that are put under a new word
    have hP1 : plainH (hdT t) = false → ComP tk t := by
      intro hp x r R G m R2 G2 m2 h
      cases h with
      | fin f _ => cases f
      | @put _ _ w _ _ _ _ m1 _ _ _ h1 h2 h =>
        rw [List.append_nil] at h
        unfold putJ endJ at h
        cases hh : hdT t with
        | lett y =>
          rw [hh] at h har h1 h2
          obtain ⟨a, b, e⟩ := two_of har
          rw [e] at h
          have h0 := h2 rfl
          subst h0
          obtain ⟨R1, G1, m1, k1, k2⟩ := h.split (J1 := [.put a y]) (J2 := [.put b x]) rfl
          obtain ⟨la, rfl, rfl, c1⟩ := (kd a (by rw [e]; simp)).2.1 _ _ _ _ _ _ _ _ k1
          obtain ⟨lb, rfl, rfl, c2⟩ := (kd b (by rw [e]; simp)).2.1 _ _ _ _ _ _ _ _ k2
          exact ⟨la ++ lb, by rw [List.append_assoc], rfl, .lett hh e c1 k1.up c2⟩
        | ask f =>
          rw [hh] at h h1 h2
          have hw := h1 rfl
          have h : Run tk (((kidsT t).map Jb.simple ++ [.ask f (kidsT t).length w]) ++ [.post w x]) (r :: R) G m1 R2 G2 m2 := h
          rw [List.append_assoc] at h
          obtain ⟨R1, G1, m3, k1, k2⟩ := h.split rfl
          obtain ⟨la, ss, rfl, rfl, c1⟩ := comL (fun u hu => (kd u hu).1) k1
          obtain ⟨R3, G3, m4, k3, k4⟩ := k2.split (J1 := [.ask f (kidsT t).length w]) (J2 := [.post w x]) rfl
          obtain ⟨f1, rfl⟩ := k3.one_fin rfl
          obtain ⟨ts, G', l1, l2, rfl, rfl⟩ := fin_ask f1
          obtain ⟨l3, rfl⟩ := List.append_inj l2 (by rw [List.length_reverse, List.length_reverse, List.length_map, List.length_map, l1, c1.len])
          have := map_t_inj (List.reverse_inj.mp l3)
          subst this
          obtain ⟨f2, rfl⟩ := k4.one_fin rfl
          cases f2
          exact ⟨la ++ [.post w x (.ask f ss w)], by rw [List.append_assoc], rfl, .ask hh hw c1⟩
        | iff =>
          rw [hh] at h har h1 h2
          obtain ⟨a, b, c, e⟩ := three_of har
          rw [e] at h
          have hw := h1 rfl
          have h : Run tk [.simple a, .row, .done b w, .row, .done c w, .iff, .post w x] (r :: R) G m1 R2 G2 m2 := h
          obtain ⟨R1, G1, m3, k1, k2⟩ := h.split (J1 := [.simple a]) (J2 := [.row, .done b w, .row, .done c w, .iff, .post w x]) rfl
          obtain ⟨la, s, rfl, rfl, c1⟩ := (kd a (by rw [e]; simp)).1 _ _ _ _ _ _ _ k1
          obtain ⟨R3, G3, m4, k3, k4⟩ := k2.split (J1 := [.row, .done b w, .row, .done c w, .iff]) (J2 := [.post w x]) rfl
          obtain ⟨lb, qb, m5, lc, qc, rfl, rfl, d1, d2, d3, d4⟩ := comI (kd b (by rw [e]; simp)).2.2 (kd c (by rw [e]; simp)).2.2 k3
          obtain ⟨f2, rfl⟩ := k4.one_fin rfl
          cases f2
          exact ⟨la ++ [.post w x (.iff s (putAh lb qb) (putAh lc qc))], by rw [List.append_assoc], rfl, .iff hh e hw c1 d1 d2 d3 d4⟩
        | tell =>
          rw [hh] at h har h1 h2
          obtain ⟨a, e⟩ := one_of har
          rw [e] at h
          have h0 := h2 rfl
          subst h0
          obtain ⟨R1, G1, m3, k1, k2⟩ := h.split (J1 := [.simple a]) (J2 := [.tell x]) rfl
          obtain ⟨la, s, rfl, rfl, c1⟩ := (kd a (by rw [e]; simp)).1 _ _ _ _ _ _ _ k1
          obtain ⟨f2, rfl⟩ := k2.one_fin rfl
          cases f2
          exact ⟨la ++ [.tell x s], by rw [List.append_assoc], rfl, .tell hh e c1⟩
        | num z => rw [hh] at hp; cases hp
        | nam z => rw [hh] at hp; cases hp
        | plus => rw [hh] at hp; cases hp
        | less => rw [hh] at hp; cases hp
    have hS : ComS tk t := by
      intro r R G m R2 G2 m2 h
      cases h with
      | fin f _ => cases f
      | @simple _ w _ _ _ _ m1 _ _ _ h1 h2 h =>
        rw [List.append_nil] at h
        unfold simpJ at h
        have leaf : (∃ z, hdT t = .num z) ∨ (∃ x, hdT t = .nam x) → m1 = m → Run tk [.known t] (r :: R) G m1 R2 G2 m2 → ∃ ls s, R2 = (r ++ ls) :: R ∧ G2 = .t s :: G ∧ CpS tk t m ls s m2 := by
          intro hl e h
          subst e
          obtain ⟨f2, rfl⟩ := h.one_fin rfl
          cases f2
          exact ⟨[], t, by rw [List.append_nil], rfl, .leaf hl⟩
        have op : ∀ (l : Bool) (a b : Tm), hdT t = (if l = true then Hd.less else Hd.plus) → kidsT t = [a, b] → m1 = m → Run tk [.simple a, .simple b, .op l] (r :: R) G m1 R2 G2 m2 → ∃ ls s, R2 = (r ++ ls) :: R ∧ G2 = .t s :: G ∧ CpS tk t m ls s m2 := by
          intro l a b hl e em h
          subst em
          obtain ⟨R1, G1, m3, k1, k2⟩ := h.split (J1 := [a, b].map Jb.simple) (J2 := [.op l]) rfl
          obtain ⟨la, ss, rfl, rfl, c1⟩ := comL (fun u hu => (kd u (by rw [e]; exact hu)).1) k1
          have hl2 := c1.len
          obtain ⟨sa, sb, rfl⟩ := two_of hl2
          obtain ⟨f2, rfl⟩ := k2.one_fin rfl
          cases f2
          exact ⟨la, mkOp l sa sb, rfl, rfl, .op hl (by rw [e]; exact c1)⟩
        have word : wordS (hdT t) = true → plainH (hdT t) = false → Run tk [.put t w, .known (mkL (.nam w) [])] (r :: R) G m1 R2 G2 m2 → ∃ ls s, R2 = (r ++ ls) :: R ∧ G2 = .t s :: G ∧ CpS tk t m ls s m2 := by
          intro hw hp h
          obtain ⟨R1, G1, m3, k1, k2⟩ := h.split (J1 := [.put t w]) (J2 := [.known (mkL (.nam w) [])]) rfl
          obtain ⟨la, rfl, rfl, c1⟩ := hP1 hp _ _ _ _ _ _ _ _ k1
          obtain ⟨f2, rfl⟩ := k2.one_fin rfl
          cases f2
          exact ⟨la, _, rfl, rfl, .word hw (h1 hw) c1⟩
        cases hh : hdT t with
        | num z => rw [hh] at h h2 leaf; exact leaf (.inl ⟨z, rfl⟩) (h2 rfl) h
        | nam z => rw [hh] at h h2 leaf; exact leaf (.inr ⟨z, rfl⟩) (h2 rfl) h
        | plus =>
          rw [hh] at h h2 har
          obtain ⟨a, b, e⟩ := two_of har
          rw [e] at h
          exact op false a b hh e (h2 rfl) h
        | less =>
          rw [hh] at h h2 har
          obtain ⟨a, b, e⟩ := two_of har
          rw [e] at h
          exact op true a b hh e (h2 rfl) h
        | lett y =>
          rw [hh] at h h2 har
          obtain ⟨a, b, e⟩ := two_of har
          rw [e] at h
          have h0 := h2 rfl
          subst h0
          obtain ⟨R1, G1, m3, k1, k2⟩ := h.split (J1 := [.put a y]) (J2 := [.simple b]) rfl
          obtain ⟨la, rfl, rfl, c1⟩ := (kd a (by rw [e]; simp)).2.1 _ _ _ _ _ _ _ _ k1
          obtain ⟨lb, s, rfl, rfl, c2⟩ := (kd b (by rw [e]; simp)).1 _ _ _ _ _ _ _ k2
          exact ⟨la ++ lb, s, by rw [List.append_assoc], rfl, .lett hh e c1 k1.up c2⟩
        | tell => rw [hh] at h word; exact word rfl rfl h
        | iff => rw [hh] at h word; exact word rfl rfl h
        | ask f => rw [hh] at h word; exact word rfl rfl h
    have hP : ComP tk t := by
      cases hp : plainH (hdT t) with
      | false => exact hP1 hp
      | true =>
        intro x r R G m R2 G2 m2 h
        cases h with
        | fin f _ => cases f
        | @put _ _ w _ _ _ _ m1 _ _ _ h1 h2 h =>
          rw [List.append_nil] at h
          unfold putJ at h
          have key : m1 = m → Run tk [.simple t, .lett x] (r :: R) G m1 R2 G2 m2 → ∃ ls, R2 = (r ++ ls) :: R ∧ G2 = G ∧ CpP tk t x m ls m2 := by
            intro e h
            subst e
            obtain ⟨R1, G1, m3, k1, k2⟩ := h.split (J1 := [.simple t]) (J2 := [.lett x]) rfl
            obtain ⟨la, s, rfl, rfl, c1⟩ := hS _ _ _ _ _ _ _ k1
            obtain ⟨f2, rfl⟩ := k2.one_fin rfl
            cases f2
            exact ⟨la ++ [.lett x s], by rw [List.append_assoc], rfl, .plain hp c1⟩
          cases hh : hdT t with
          | num z => rw [hh] at h h2; exact key (h2 rfl) h
          | nam z => rw [hh] at h h2; exact key (h2 rfl) h
          | plus => rw [hh] at h h2; exact key (h2 rfl) h
          | less => rw [hh] at h h2; exact key (h2 rfl) h
          | lett y => rw [hh] at hp; cases hp
          | tell => rw [hh] at hp; cases hp
          | iff => rw [hh] at hp; cases hp
          | ask f => rw [hh] at hp; cases hp
    refine ⟨hS, hP, ?_⟩
    intro j r R G m R2 G2 m2 h
    cases h with
    | fin f _ => cases f
    | done h =>
      rw [List.append_nil] at h
      unfold doneJ endJ at h
      have give : lazyH (hdT t) = false → wordH (hdT t) = false → Run tk [.simple t, .give j, .close] (r :: R) G m R2 G2 m2 → ∃ ls q, R2 = R ∧ G2 = .p (putAh (r ++ ls) q) :: G ∧ CpD tk t j m ls q m2 := by
        intro z1 z2 h
        obtain ⟨R1, G1, m3, k1, k2⟩ := h.split (J1 := [.simple t]) (J2 := [.give j, .close]) rfl
        obtain ⟨la, s, rfl, rfl, c1⟩ := hS _ _ _ _ _ _ _ k1
        obtain ⟨R3, G3, m4, k3, k4⟩ := k2.split (J1 := [.give j]) (J2 := [.close]) rfl
        obtain ⟨f2, rfl⟩ := k3.one_fin rfl
        cases f2
        obtain ⟨f3, rfl⟩ := k4.one_fin rfl
        cases f3
        exact ⟨la, .give j s, rfl, rfl, .give z1 z2 c1⟩
      cases hh : hdT t with
      | lett y =>
        rw [hh] at h har
        obtain ⟨a, b, e⟩ := two_of har
        rw [e] at h
        obtain ⟨R1, G1, m3, k1, k2⟩ := h.split (J1 := [.put a y]) (J2 := [.done b j]) rfl
        obtain ⟨la, rfl, rfl, c1⟩ := (kd a (by rw [e]; simp)).2.1 _ _ _ _ _ _ _ _ k1
        obtain ⟨lb, q, rfl, rfl, c2⟩ := (kd b (by rw [e]; simp)).2.2 _ _ _ _ _ _ _ _ k2
        exact ⟨la ++ lb, q, rfl, by rw [List.append_assoc], .lett hh e c1 k1.up c2⟩
      | ask f =>
        rw [hh] at h
        have h : Run tk (((kidsT t).map Jb.simple ++ [.ask f (kidsT t).length j]) ++ [.close]) (r :: R) G m R2 G2 m2 := h
        rw [List.append_assoc] at h
        obtain ⟨R1, G1, m3, k1, k2⟩ := h.split rfl
        obtain ⟨la, ss, rfl, rfl, c1⟩ := comL (fun u hu => (kd u hu).1) k1
        obtain ⟨R3, G3, m4, k3, k4⟩ := k2.split (J1 := [.ask f (kidsT t).length j]) (J2 := [.close]) rfl
        obtain ⟨f1, rfl⟩ := k3.one_fin rfl
        obtain ⟨ts, G', l1, l2, rfl, rfl⟩ := fin_ask f1
        obtain ⟨l3, rfl⟩ := List.append_inj l2 (by rw [List.length_reverse, List.length_reverse, List.length_map, List.length_map, l1, c1.len])
        have := map_t_inj (List.reverse_inj.mp l3)
        subst this
        obtain ⟨f2, rfl⟩ := k4.one_fin rfl
        cases f2
        exact ⟨la, .ask f ss j, rfl, rfl, .ask hh c1⟩
      | iff =>
        rw [hh] at h har
        obtain ⟨a, b, c, e⟩ := three_of har
        rw [e] at h
        have h : Run tk [.simple a, .row, .done b j, .row, .done c j, .iff, .close] (r :: R) G m R2 G2 m2 := h
        obtain ⟨R1, G1, m3, k1, k2⟩ := h.split (J1 := [.simple a]) (J2 := [.row, .done b j, .row, .done c j, .iff, .close]) rfl
        obtain ⟨la, s, rfl, rfl, c1⟩ := (kd a (by rw [e]; simp)).1 _ _ _ _ _ _ _ k1
        obtain ⟨R3, G3, m4, k3, k4⟩ := k2.split (J1 := [.row, .done b j, .row, .done c j, .iff]) (J2 := [.close]) rfl
        obtain ⟨lb, qb, m5, lc, qc, rfl, rfl, d1, d2, d3, d4⟩ := comI (kd b (by rw [e]; simp)).2.2 (kd c (by rw [e]; simp)).2.2 k3
        obtain ⟨f2, rfl⟩ := k4.one_fin rfl
        cases f2
        exact ⟨la, .iff s (putAh lb qb) (putAh lc qc), rfl, rfl, .iff hh e c1 d1 d2 d3⟩
      | num z => rw [hh] at h give; exact give rfl rfl h
      | nam z => rw [hh] at h give; exact give rfl rfl h
      | plus => rw [hh] at h give; exact give rfl rfl h
      | less => rw [hh] at h give; exact give rfl rfl h
      | tell => rw [hh] at h give; exact give rfl rfl h
/-- a body turned -/
theorem comB {xs : List Str} {t : Tm} {p : Pt} (ha : arA t) (h : RunB xs t p) : ∃ ls q m, p = putAh ls q ∧ CpD (wordsIn xs t) t "home" 0 ls q m := by
  obtain ⟨m', h⟩ := h
  obtain ⟨R1, G1, m1, k1, k2⟩ := h.split (J1 := [.row]) (J2 := [.done t "home"]) rfl
  obtain ⟨f2, rfl⟩ := k1.one_fin rfl
  cases f2
  obtain ⟨ls, q, _, e, c⟩ := (comp_ _ _ t (Nat.le_refl _) ha).2.2 _ _ _ _ _ _ _ _ k2
  obtain ⟨e1, _⟩ := List.cons.inj e
  exact ⟨ls, q, m', Gt.p.inj e1, c⟩
end KB

namespace KB
open PySem L2

/-! ### how many new words, how large what is made -/
def pcL : List Ld → Nat
  | [] => 0
  | .lett _ _ :: r => 1 + pcL r
  | .tell _ _ :: r => 1 + pcL r
  | .post _ _ u :: r => 1 + pcnt u + pcL r
theorem pcL_put : ∀ (ls : List Ld) (q : Pt), pcnt (putAh ls q) = pcL ls + pcnt q
  | [], q => by show pcnt q = 0 + pcnt q; omega
  | .lett _ _ :: r, q => by show 1 + pcnt (putAh r q) = 1 + pcL r + pcnt q; rw [pcL_put r q]; omega
  | .tell _ _ :: r, q => by show 1 + pcnt (putAh r q) = 1 + pcL r + pcnt q; rw [pcL_put r q]; omega
  | .post _ _ u :: r, q => by show 1 + pcnt (putAh r q) + pcnt u = 1 + pcnt u + pcL r + pcnt q; rw [pcL_put r q]; omega
theorem pcL_app : ∀ (a b : List Ld), pcL (a ++ b) = pcL a + pcL b
  | [], b => by show pcL b = 0 + pcL b; omega
  | .lett _ _ :: r, b => by show 1 + pcL (r ++ b) = 1 + pcL r + pcL b; rw [pcL_app r b]; omega
  | .tell _ _ :: r, b => by show 1 + pcL (r ++ b) = 1 + pcL r + pcL b; rw [pcL_app r b]; omega
  | .post _ _ u :: r, b => by show 1 + pcnt u + pcL (r ++ b) = 1 + pcnt u + pcL r + pcL b; rw [pcL_app r b]; omega
structure Bd (U m m' n : Nat) : Prop where
  up : m ≤ m'
  le : m' ≤ m + n * U
theorem Bd.refl (U m n : Nat) : Bd U m m n := ⟨Nat.le_refl _, Nat.le_add_right _ _⟩
theorem Bd.trans {U m m1 m2 a b n : Nat} (h1 : Bd U m m1 a) (h2 : Bd U m1 m2 b) (e : a + b ≤ n) : Bd U m m2 n := by
  refine ⟨Nat.le_trans h1.up h2.up, ?_⟩
  have h3 := h1.le
  have h4 := h2.le
  have h5 := Nat.mul_le_mul_right U e
  rw [Nat.add_mul] at h5
  omega
theorem Bd.mono {U m m1 a n : Nat} (h1 : Bd U m m1 a) (e : a ≤ n) : Bd U m m1 n := h1.trans (Bd.refl U m1 0) (by omega)
section
variable {tk : List Str}
theorem NwR.bd {m m1 : Nat} {w : Str} (h : NwR tk m w m1) : Bd (tk.length + 1) m m1 1 := by
  obtain ⟨k, h1, h2, _, _, rfl, _⟩ := h
  exact ⟨by omega, by omega⟩
def BS (tk : List Str) (t : Tm) : Prop := ∀ {m ls s m'}, CpS tk t m ls s m' → Bd (tk.length + 1) m m' (4 * cnt t) ∧ pcL ls ≤ 4 * cnt t ∧ (plainH (hdT t) = true → Bd (tk.length + 1) m m' (4 * cnt t - 4) ∧ pcL ls ≤ 4 * cnt t - 4)
def BP (tk : List Str) (t : Tm) : Prop := ∀ {x m ls m'}, CpP tk t x m ls m' → Bd (tk.length + 1) m m' (4 * cnt t - 1) ∧ pcL ls ≤ 4 * cnt t
def BD (tk : List Str) (t : Tm) : Prop := ∀ {j m ls q m'}, CpD tk t j m ls q m' → Bd (tk.length + 1) m m' (4 * cnt t) ∧ pcL ls + pcnt q ≤ 4 * cnt t + 1
theorem bL : ∀ {ts : List Tm}, (∀ u ∈ ts, BS tk u) → ∀ {m ls ss m'}, CpL tk ts m ls ss m' → Bd (tk.length + 1) m m' (4 * cnts ts) ∧ pcL ls ≤ 4 * cnts ts
  | [], _, m, ls, ss, m', h => by
    cases h
    exact ⟨Bd.refl _ _ _, Nat.zero_le _⟩
  | t :: ts, ih, m, ls, ss, m', h => by
    cases h with
    | cons h1 _ h2 =>
      obtain ⟨a1, a2, _⟩ := ih t List.mem_cons_self h1
      obtain ⟨b1, b2⟩ := bL (fun u hu => ih u (List.mem_cons_of_mem _ hu)) h2
      rw [cnts_cons, pcL_app]
      exact ⟨a1.trans b1 (by omega), by omega⟩
theorem cnts_one (a : Tm) : cnts [a] = cnt a := by rw [cnts_cons]; rfl
theorem cnts_two (a b : Tm) : cnts [a, b] = cnt a + cnt b := by rw [cnts_cons, cnts_one]
theorem cnts_three (a b c : Tm) : cnts [a, b, c] = cnt a + (cnt b + cnt c) := by rw [cnts_cons, cnts_two]
theorem bnd_ (tk : List Str) (n : Nat) : ∀ t, cnt t ≤ n → BS tk t ∧ BP tk t ∧ BD tk t := by
  induction n with
  | zero =>
    intro t h
    have := cnt_pos t
    omega
  | succ n ih =>
    intro t hn
    have kd : ∀ u ∈ kidsT t, BS tk u ∧ BP tk u ∧ BD tk u := fun u hu => ih u (by have := cnt_kid hu; omega)
    have hk := cnt_kids t
    have hP1 : plainH (hdT t) = false → BP tk t := by
      intro hp x m ls m' h
      cases h with
      | @lett _ _ y a b _ la m1 lb _ hh he h1 _ h2 =>
        obtain ⟨a1, a2⟩ := (kd a (by rw [he]; simp)).2.1 h1
        obtain ⟨b1, b2⟩ := (kd b (by rw [he]; simp)).2.1 h2
        rw [he, cnts_two] at hk
        have := cnt_pos a
        have := cnt_pos b
        rw [pcL_app]
        exact ⟨a1.trans b1 (by omega), by omega⟩
      | @ask _ f _ w _ m1 la ss _ hh hn hL =>
        obtain ⟨a1, a2⟩ := bL (fun u hu => (kd u hu).1) hL
        rw [pcL_app]
        refine ⟨hn.bd.trans a1 (by omega), ?_⟩
        show pcL la + (1 + 1 + 0) ≤ _
        omega
      | @iff _ _ w a b c _ m1 la s m2 lb qb m3 lc qc _ hh he hn h1 h2 _ h3 _ =>
        obtain ⟨a1, a2, _⟩ := (kd a (by rw [he]; simp)).1 h1
        obtain ⟨b1, b2⟩ := (kd b (by rw [he]; simp)).2.2 h2
        obtain ⟨c1, c2⟩ := (kd c (by rw [he]; simp)).2.2 h3
        rw [he, cnts_three] at hk
        rw [pcL_app]
        refine ⟨hn.bd.trans (a1.trans (b1.trans c1 (Nat.le_refl _)) (Nat.le_refl _)) (by omega), ?_⟩
        show pcL la + (1 + (1 + pcnt (putAh lb qb) + pcnt (putAh lc qc)) + 0) ≤ _
        rw [pcL_put, pcL_put]
        omega
      | @tell _ _ a _ la s _ hh he h1 =>
        obtain ⟨a1, a2, _⟩ := (kd a (by rw [he]; simp)).1 h1
        rw [he, cnts_one] at hk
        rw [pcL_app]
        refine ⟨a1.mono (by omega), ?_⟩
        show pcL la + (1 + 0) ≤ _
        omega
      | plain hp2 => rw [hp] at hp2; cases hp2
    have hS : BS tk t := by
      intro m ls s m' h
      have hpos := cnt_pos t
      cases h with
      | leaf hl => exact ⟨Bd.refl _ _ _, Nat.zero_le _, fun _ => ⟨Bd.refl _ _ _, Nat.zero_le _⟩⟩
      | @op _ _ _ sa sb _ lo hh hL =>
        obtain ⟨a1, a2⟩ := bL (fun u hu => (kd u hu).1) hL
        exact ⟨a1.mono (by omega), by omega, fun _ => ⟨a1.mono (by omega), by omega⟩⟩
      | @lett _ y a b _ la m1 lb _ _ hh he h1 _ h2 =>
        obtain ⟨a1, a2⟩ := (kd a (by rw [he]; simp)).2.1 h1
        obtain ⟨b1, b2, _⟩ := (kd b (by rw [he]; simp)).1 h2
        rw [he, cnts_two] at hk
        rw [pcL_app]
        exact ⟨a1.trans b1 (by omega), by omega, fun z => by rw [hh] at z; cases z⟩
      | @word _ _ w m1 _ _ hw hn h1 =>
        have hpl : plainH (hdT t) = false := by
          cases hh : hdT t <;> rw [hh] at hw <;> first | rfl | cases hw
        obtain ⟨a1, a2⟩ := hP1 hpl h1
        exact ⟨hn.bd.trans a1 (by omega), a2, fun z => by rw [hpl] at z; cases z⟩
    have hP : BP tk t := by
      cases hp : plainH (hdT t) with
      | false => exact hP1 hp
      | true =>
        intro x m ls m' h
        have hpos := cnt_pos t
        cases h with
        | plain _ h1 =>
          obtain ⟨_, _, h⟩ := hS h1
          obtain ⟨a1, a2⟩ := h hp
          rw [pcL_app]
          refine ⟨a1.mono (by omega), ?_⟩
          show _ + (1 + 0) ≤ _
          omega
        | lett hh _ _ _ _ => rw [hh] at hp; cases hp
        | ask hh _ _ => rw [hh] at hp; cases hp
        | iff hh _ _ _ _ _ _ _ => rw [hh] at hp; cases hp
        | tell hh _ _ => rw [hh] at hp; cases hp
    refine ⟨hS, hP, ?_⟩
    intro j m ls q m' h
    cases h with
    | @lett _ _ y a b _ la m1 lb _ _ hh he h1 _ h2 =>
      obtain ⟨a1, a2⟩ := (kd a (by rw [he]; simp)).2.1 h1
      obtain ⟨b1, b2⟩ := (kd b (by rw [he]; simp)).2.2 h2
      rw [he, cnts_two] at hk
      rw [pcL_app]
      exact ⟨a1.trans b1 (by omega), by omega⟩
    | @ask _ f _ _ la ss _ hh hL =>
      obtain ⟨a1, a2⟩ := bL (fun u hu => (kd u hu).1) hL
      refine ⟨a1.mono (by omega), ?_⟩
      show pcL _ + 1 ≤ _
      omega
    | @iff _ _ a b c _ la s m2 lb qb m3 lc qc _ hh he h1 h2 _ h3 =>
      obtain ⟨a1, a2, _⟩ := (kd a (by rw [he]; simp)).1 h1
      obtain ⟨b1, b2⟩ := (kd b (by rw [he]; simp)).2.2 h2
      obtain ⟨c1, c2⟩ := (kd c (by rw [he]; simp)).2.2 h3
      rw [he, cnts_three] at hk
      refine ⟨a1.trans (b1.trans c1 (Nat.le_refl _)) (by omega), ?_⟩
      show pcL ls + (1 + pcnt (putAh lb qb) + pcnt (putAh lc qc)) ≤ _
      rw [pcL_put, pcL_put]
      omega
    | give _ _ h1 =>
      obtain ⟨a1, a2, _⟩ := hS h1
      refine ⟨a1, ?_⟩
      show pcL ls + 1 ≤ _
      omega
theorem CpS.up {t : Tm} {m ls s m'} (h : CpS tk t m ls s m') : m ≤ m' := ((bnd_ tk _ t (Nat.le_refl _)).1 h).1.up
theorem CpP.up {t : Tm} {x m ls m'} (h : CpP tk t x m ls m') : m ≤ m' := ((bnd_ tk _ t (Nat.le_refl _)).2.1 h).1.up
theorem CpD.up {t : Tm} {j m ls q m'} (h : CpD tk t j m ls q m') : m ≤ m' := ((bnd_ tk _ t (Nat.le_refl _)).2.2 h).1.up
theorem CpL.up {ts : List Tm} {m ls ss m'} (h : CpL tk ts m ls ss m') : m ≤ m' := (bL (fun u _ => (bnd_ tk _ u (Nat.le_refl _)).1) h).1.up
end
end KB

namespace KB.N
open PySem L2
abbrev Env := Str → Option Int
/-- each name of a simple term has its number -/
def hasN (env : Env) : Tm → Prop
  | .mk h _ k => (match h with | .nam x => ∃ z, env x = some z | _ => True) ∧ ∀ i, hasN env (k i)
structure RTm (xs : List Str) (t : Tm) : Prop where
  ok : okT t
  si : simple t = true
  n : ∀ env : Env, (∀ x ∈ xs, ∃ z, env x = some z) → hasN env t
  cn : cnt t ≤ 200
  ht : HtLe 64 t
def rP (hd : Str → Option Nat) : Pt → List Str → List Str → Prop
  | .give j t, xs, hs => j ∈ hs ∧ RTm xs t
  | .ask f ts j, xs, hs => j ∈ hs ∧ isW f = true ∧ hd f = some ts.length ∧ ts.length ≤ 4 ∧ ∀ t ∈ ts, RTm xs t
  | .tell x t p, xs, hs => isW x = true ∧ RTm xs t ∧ rP hd p (xs ++ [x]) hs
  | .lett x t p, xs, hs => isW x = true ∧ RTm xs t ∧ rP hd p (xs ++ [x]) hs
  | .iff t p q, xs, hs => RTm xs t ∧ rP hd p xs hs ∧ rP hd q xs hs
  | .post j x p q, xs, hs => isW j = true ∧ isW x = true ∧ rP hd p (xs ++ [x]) hs ∧ rP hd q xs (hs ++ [j])
end KB.N
namespace KB.R
open PySem L2
theorem kids_get {h : Hd} {n : Nat} {k : _root_.Fin n → Tm} {i : Nat} {u : Tm} (e : (kidsT (.mk h n k))[i]? = some u) : ∃ hi : i < n, u = k ⟨i, hi⟩ := by
  have hi : i < n := by
    have := (List.getElem?_eq_some_iff.mp e).1
    rwa [kids_len] at this
  refine ⟨hi, ?_⟩
  have e' : (List.ofFn k)[i]? = some u := e
  rw [List.getElem?_ofFn, dif_pos hi] at e'
  exact (Option.some.inj e').symm
theorem ok_kid {t u : Tm} {i : Nat} {hd : Str → Option Nat} {xs : List Str} (h : okS hd t xs) (e : (kidsT t)[i]? = some u) : okS hd u (inn (hdT t) i xs) := by
  cases t with
  | mk h' n k =>
    obtain ⟨hi, rfl⟩ := kids_get e
    exact h.2 _
end KB.R
namespace KB
open PySem L2
theorem lets_pre : ∀ (t : Tm) (x : Str), x ∈ letsOf t → x ∈ (TrT.pre t).filterMap letW := by
  intro t
  induction t with
  | mk h n k ih =>
    intro x hx
    rw [lets_mk] at hx
    rw [TrT.pre_mk, List.filterMap_cons]
    rcases List.mem_append.mp hx with h1 | h1
    · cases h with
      | lett y =>
        have : letW (.mk (.lett y) n k) = some y := rfl
        rw [this]
        dsimp only
        have e : x = y := by
          have h1 : x ∈ [y] := h1
          simpa using h1
        rw [e]
        exact List.mem_cons_self
      | _ => cases h1
    · have : x ∈ ((TrT.kids (.mk h n k)).map TrT.pre).flatten.filterMap letW := by
        obtain ⟨l, hl, hxl⟩ := List.mem_flatten.mp h1
        obtain ⟨u, hu, rfl⟩ := List.mem_map.mp hl
        obtain ⟨i, rfl⟩ := List.mem_ofFn.mp hu
        obtain ⟨v, hv, e⟩ := List.mem_filterMap.mp (ih i x hxl)
        exact List.mem_filterMap.mpr ⟨v, List.mem_flatten.mpr ⟨_, List.mem_map.mpr ⟨k i, List.mem_ofFn.mpr ⟨i, rfl⟩, rfl⟩, hv⟩, e⟩
      cases letW (Tm.mk h n k) with
      | none => exact this
      | some y => exact List.mem_cons_of_mem _ this
theorem lets_eq (t : Tm) : letsOf t = hdLets (hdT t) ++ letsL (kidsT t) := by
  obtain ⟨h, n, k⟩ := t
  exact lets_mk
theorem letsL_two {a b : Tm} : letsL [a, b] = letsOf a ++ letsOf b := by
  rw [letsL_cons, letsL_cons]
  show _ ++ (_ ++ []) = _
  rw [List.append_nil]
theorem letsL_three {a b e : Tm} : letsL [a, b, e] = letsOf a ++ (letsOf b ++ letsOf e) := by
  rw [letsL_cons, letsL_two]
end KB

namespace KB
open PySem L2

/-! ### new words are words -/
theorem digs_small : ∀ n k : Nat, k ≤ n → ∀ c ∈ digs k, small c = true := by
  intro n
  induction n with
  | zero =>
    intro k hk c hc
    have h0 : k = 0 := by omega
    subst h0
    rw [digs_eq, if_pos rfl, List.nil_append] at hc
    rw [List.mem_singleton.mp hc]
    decide
  | succ n ih =>
    intro k hk c hc
    rw [digs_eq] at hc
    rcases List.mem_append.mp hc with z | z
    · by_cases d : k / 26 = 0
      · rw [if_pos d] at z
        cases z
      · rw [if_neg d] at z
        exact ih (k / 26) (by omega) c z
    · rw [List.mem_singleton.mp z]
      unfold small
      rw [decide_eq_true (by omega), decide_eq_true (by omega)]
      rfl
theorem isW_wordOf {k : Nat} (h : k < 26 ^ 7) : isW (wordOf k) = true := by
  have hl := digs_len 6 k h
  have hz : (wordOf k).length = (digs k).length + 1 := by
    show ((digs k ++ [113]).toArray).size = _
    rw [List.size_toArray, List.length_append]
    rfl
  have hk : keptW.contains (wordOf k) = false := by
    cases hc : keptW.contains (wordOf k) with
    | false => rfl
    | true =>
      exfalso
      have hm : wordOf k ∈ keptW := by simpa using hc
      have hlast : (wordOf k).cps.toList.getLast? = some 113 := by
        show (digs k ++ [113]).toArray.toList.getLast? = some 113
        rw [List.getLast?_append]
        rfl
      have all : ∀ z ∈ keptW, z.cps.toList.getLast? ≠ some 113 := by decide +kernel
      exact all _ hm hlast
  unfold isW
  rw [hk, hz]
  have a1 : decide (1 ≤ (digs k).length + 1) = true := decide_eq_true (by omega)
  have a2 : decide ((digs k).length + 1 ≤ 8) = true := decide_eq_true (by omega)
  rw [a1, a2]
  have a3 : (wordOf k).cps.toList.all small = true := by
    show (digs k ++ [113]).toArray.toList.all small = true
    rw [List.all_eq_true]
    intro c hc
    rcases List.mem_append.mp (show c ∈ digs k ++ [113] from hc) with z | z
    · exact digs_small k k (Nat.le_refl _) c z
    · rw [List.mem_singleton.mp z]
      decide
  rw [a3]
  rfl
/-! ### the scopes of what is turned -/
structure Sz (xs : List Str) (n : Nat) (s : Tm) : Prop where
  ok : okT s
  si : simple s = true
  nm : ∀ env : N.Env, (∀ x ∈ xs, ∃ z, env x = some z) → N.hasN env s
  ht : HtLe n s
theorem Sz.mono {xs zs : List Str} {n : Nat} {s : Tm} (h : Sz xs n s) (e : ∀ x ∈ xs, x ∈ zs) : Sz zs n s := ⟨h.ok, h.si, fun env he => h.nm env fun x hx => he x (e x hx), h.ht⟩
theorem Sz.rt {xs : List Str} {n : Nat} {s : Tm} (h : Sz xs n s) (hc : cnt s ≤ 200) (hn : n ≤ 64) : N.RTm xs s := ⟨h.ok, h.si, h.nm, hc, h.ht.le hn⟩
theorem okT_kidm {t u : Tm} (h : okT t) (e : u ∈ kidsT t) : okT u := by
  obtain ⟨hd, n, k⟩ := t
  obtain ⟨i, rfl⟩ := List.mem_ofFn.mp e
  exact h.2 i
theorem okH_of {t : Tm} (h : okT t) : okH (hdT t) := by
  obtain ⟨hd, n, k⟩ := t
  exact h.1
theorem ht_kidm {t u : Tm} {n : Nat} (h : HtLe (n + 1) t) (e : u ∈ kidsT t) : HtLe n u := by
  obtain ⟨hd, m, k⟩ := t
  obtain ⟨i, rfl⟩ := List.mem_ofFn.mp e
  exact h i
theorem ht_pos {t : Tm} {n : Nat} (h : HtLe n t) : ∃ m, n = m + 1 := by
  cases n with
  | zero => exact h.elim
  | succ n => exact ⟨n, rfl⟩
section
variable {hd : Str → Option Nat} {tk : List Str}
theorem okS_kid {t u : Tm} {xs : List Str} {i : Nat} (h : okS hd t xs) (e : (kidsT t)[i]? = some u) : okS hd u (inn (hdT t) i xs) := R.ok_kid h e
theorem okN_hd {t : Tm} {xs : List Str} (h : okS hd t xs) : okN hd (hdT t) (kidsT t).length xs := by
  obtain ⟨h0, n, k⟩ := t
  show okN hd h0 (List.ofFn k).length xs
  rw [List.length_ofFn]
  exact h.1
theorem okS_all {t : Tm} {xs : List Str} (h : okS hd t xs) (hz : ∀ y, hdT t ≠ .lett y) : ∀ u ∈ kidsT t, okS hd u xs := fun u hu => by
  obtain ⟨i, hi⟩ := List.mem_iff_getElem?.mp hu
  have := okS_kid h hi
  cases hh : hdT t with
  | lett y => exact absurd hh (hz y)
  | _ => rw [hh] at this; exact this
structure Has (hd : Str → Option Nat) (n : Nat) (xs0 xs : List Str) (t : Tm) : Prop where
  ar : arA t
  ok : okT t
  ht : HtLe n t
  sc : okS hd t xs0
  su : ∀ x ∈ xs0, x ∈ xs
  cn : cnt t ≤ 200
  n : n ≤ 64
theorem Has.kid {n : Nat} {xs0 xs : List Str} {t u : Tm} (h : Has hd n xs0 xs t) (hz : ∀ y, hdT t ≠ .lett y) (hu : u ∈ kidsT t) : Has hd (n - 1) xs0 xs u := by
  obtain ⟨m, rfl⟩ := ht_pos h.ht
  exact ⟨h.ar.kid hu, okT_kidm h.ok hu, ht_kidm h.ht hu, okS_all h.sc hz u hu, h.su, by have := cnt_kid hu; have := h.cn; omega, by have := h.n; omega⟩
theorem Has.more {n : Nat} {xs0 xs zs : List Str} {t : Tm} (h : Has hd n xs0 xs t) (e : ∀ x ∈ xs, x ∈ zs) : Has hd n xs0 zs t := ⟨h.ar, h.ok, h.ht, h.sc, fun x hx => e x (h.su x hx), h.cn, h.n⟩
def ScS (hd : Str → Option Nat) (tk : List Str) (t : Tm) : Prop := ∀ {m ls s m' n xs0 xs}, CpS tk t m ls s m' → m' ≤ 26 ^ 7 → Has hd n xs0 xs t → ∃ zs, (∀ x ∈ xs, x ∈ zs) ∧ Sz zs n s ∧ cnt s ≤ cnt t ∧ ∀ p0 hs, N.rP hd p0 zs hs → N.rP hd (putAh ls p0) xs hs
def ScP (hd : Str → Option Nat) (tk : List Str) (t : Tm) : Prop := ∀ {x m ls m' n xs0 xs}, CpP tk t x m ls m' → m' ≤ 26 ^ 7 → Has hd n xs0 xs t → isW x = true → ∃ zs, (∀ y ∈ xs, y ∈ zs) ∧ x ∈ zs ∧ ∀ p0 hs, N.rP hd p0 zs hs → N.rP hd (putAh ls p0) xs hs
def ScD (hd : Str → Option Nat) (tk : List Str) (t : Tm) : Prop := ∀ {j m ls q m' n xs0 xs}, CpD tk t j m ls q m' → m' ≤ 26 ^ 7 → Has hd n xs0 xs t → ∀ hs, j ∈ hs → N.rP hd (putAh ls q) xs hs
theorem scL : ∀ {ts : List Tm}, (∀ u ∈ ts, ScS hd tk u) → ∀ {m ls ss m' n xs0 xs}, CpL tk ts m ls ss m' → m' ≤ 26 ^ 7 → (∀ u ∈ ts, Has hd n xs0 xs u) → ∃ zs, (∀ x ∈ xs, x ∈ zs) ∧ (∀ s ∈ ss, Sz zs n s) ∧ cnts ss ≤ cnts ts ∧ ∀ p0 hs, N.rP hd p0 zs hs → N.rP hd (putAh ls p0) xs hs
  | [], _, m, ls, ss, m', n, xs0, xs, h, _, _ => by
    cases h
    exact ⟨xs, fun _ z => z, fun _ z => absurd z List.not_mem_nil, Nat.le_refl _, fun _ _ z => z⟩
  | t :: ts, ih, m, ls, ss, m', n, xs0, xs, h, hm, H => by
    cases h with
    | cons h1 _ h2 =>
      obtain ⟨z1, a1, a2, a3, a4⟩ := ih t List.mem_cons_self h1 (Nat.le_trans h2.up hm) (H t List.mem_cons_self)
      obtain ⟨z2, b1, b2, b3, b4⟩ := scL (fun u hu => ih u (List.mem_cons_of_mem _ hu)) h2 hm fun u hu => (H u (List.mem_cons_of_mem _ hu)).more a1
      refine ⟨z2, fun x hx => b1 x (a1 x hx), fun s hs => ?_, by rw [cnts_cons, cnts_cons]; omega, fun p0 hs z => ?_⟩
      · rcases List.mem_cons.mp hs with rfl | hs
        · exact a2.mono b1
        · exact b2 s hs
      · rw [putAh_app]
        exact a4 _ hs (b4 p0 hs z)
theorem cnt_in {s : Tm} : ∀ {ss : List Tm}, s ∈ ss → cnt s ≤ cnts ss
  | a :: r, h => by
    rw [cnts_cons]
    rcases List.mem_cons.mp h with rfl | h
    · omega
    · have := cnt_in h; omega
theorem sz_nam {xs : List Str} {n : Nat} {w : Str} (hw : isW w = true) (hx : w ∈ xs) : Sz xs (n + 1) (mkL (.nam w) []) :=
  ⟨⟨hw, fun i => i.elim0⟩, rfl, fun env he => ⟨he w hx, fun i => i.elim0⟩, fun i => i.elim0⟩
theorem isW_new {m m1 : Nat} {w : Str} (h : NwR tk m w m1) (e : m1 ≤ 26 ^ 7) : isW w = true := by
  obtain ⟨k, _, _, rfl, _, rfl, _⟩ := h
  exact isW_wordOf (by omega)
theorem scp_ (tk : List Str) (N0 : Nat) : ∀ t, cnt t ≤ N0 → ScS hd tk t ∧ ScP hd tk t ∧ ScD hd tk t := by
  induction N0 with
  | zero =>
    intro t h
    have := cnt_pos t
    omega
  | succ N0 ih =>
    intro t hn
    have kd : ∀ u ∈ kidsT t, ScS hd tk u ∧ ScP hd tk u ∧ ScD hd tk u := fun u hu => ih u (by have := cnt_kid hu; omega)
    have hk := cnt_kids t
    have hlet : ∀ {n xs0 xs} {y : Str} {a b : Tm} {m : Nat} {la : List Ld} {m1 : Nat}, Has hd n xs0 xs t → hdT t = .lett y → kidsT t = [a, b] → CpP tk a y m la m1 → m1 ≤ 26 ^ 7 →
        ∃ zs, (∀ x ∈ xs, x ∈ zs) ∧ Has hd n (xs0 ++ [y]) zs b ∧ ∀ p0 hs, N.rP hd p0 zs hs → N.rP hd (putAh la p0) xs hs := by
      intro n xs0 xs y a b m la m1 H hh he h1 hm
      obtain ⟨n', rfl⟩ := ht_pos H.ht
      have ka : a ∈ kidsT t := by rw [he]; simp
      have kb : b ∈ kidsT t := by rw [he]; simp
      have oy := okH_of H.ok
      rw [hh] at oy
      have sa : okS hd a xs0 := by
        have := okS_kid H.sc (i := 0) (u := a) (by rw [he]; rfl)
        rwa [hh] at this
      have sb : okS hd b (xs0 ++ [y]) := by
        have := okS_kid H.sc (i := 1) (u := b) (by rw [he]; rfl)
        rwa [hh] at this
      have Ha : Has hd n' xs0 xs a := ⟨H.ar.kid ka, okT_kidm H.ok ka, ht_kidm H.ht ka, sa, H.su, by have := cnt_kid ka; have := H.cn; omega, by have := H.n; omega⟩
      obtain ⟨zs, z1, z2, z3⟩ := (kd a ka).2.1 h1 hm Ha oy
      refine ⟨zs, z1, ⟨H.ar.kid kb, okT_kidm H.ok kb, (ht_kidm H.ht kb).up, sb, fun x hx => ?_, by have := cnt_kid kb; have := H.cn; omega, H.n⟩, z3⟩
      rcases List.mem_append.mp hx with z | z
      · exact z1 x (H.su x z)
      · rw [List.mem_singleton.mp z]; exact z2
    have hP1 : plainH (hdT t) = false → ScP hd tk t := by
      intro hp x m ls m' n xs0 xs h hm H hx
      cases h with
      | @lett _ _ y a b _ la m1 lb _ hh he h1 _ h2 =>
        obtain ⟨zs, z1, Hb, z3⟩ := hlet H hh he h1 (Nat.le_trans h2.up hm)
        obtain ⟨ys, y1, y2, y3⟩ := (kd b (by rw [he]; simp)).2.1 h2 hm Hb hx
        exact ⟨ys, fun x hx => y1 x (z1 x hx), y2, fun p0 hs z => by rw [putAh_app]; exact z3 _ _ (y3 _ _ z)⟩
      | @ask _ f _ w _ m1 la ss _ hh hn hL =>
        obtain ⟨zs, z1, z2, z3, z4⟩ := scL (fun u hu => (kd u hu).1) hL hm fun u hu => H.kid (fun y z => by rw [hh] at z; cases z) hu
        have hw := isW_new hn (Nat.le_trans hL.up hm)
        have of := okH_of H.ok
        rw [hh] at of
        have on := okN_hd H.sc
        rw [hh] at on
        have on : hd f = some (kidsT t).length := on
        have har := H.ar.len
        rw [hh] at har
        have har : (kidsT t).length ≤ 4 := har
        refine ⟨zs ++ [x], fun y hy => List.mem_append_left _ (z1 y hy), List.mem_append_right _ List.mem_cons_self, fun p0 hs z => ?_⟩
        rw [putAh_app]
        refine z4 _ hs ⟨hw, hx, z, List.mem_append_right _ List.mem_cons_self, of, by rw [hL.len]; exact on, by rw [hL.len]; exact har, fun s hs2 => (z2 s hs2).rt ?_ ?_⟩
        · have := cnt_in hs2
          have := H.cn
          omega
        · have := H.n
          omega
      | @iff _ _ w a b c _ m1 la s m2 lb qb m3 lc qc _ hh he hn h1 h2 _ h3 _ =>
        have hz : ∀ y, hdT t ≠ .lett y := fun y z => by rw [hh] at z; cases z
        have ka : a ∈ kidsT t := by rw [he]; simp
        have kb : b ∈ kidsT t := by rw [he]; simp
        have kc : c ∈ kidsT t := by rw [he]; simp
        have u3 := h3.up
        have u2 := h2.up
        have u1 := h1.up
        obtain ⟨zs, z1, z2, z3, z4⟩ := (kd a ka).1 h1 (by omega) (H.kid hz ka)
        have hw := isW_new hn (by omega)
        have rb := (kd b kb).2.2 h2 (by omega) ((H.kid hz kb).more z1)
        have rc := (kd c kc).2.2 h3 hm ((H.kid hz kc).more z1)
        refine ⟨zs ++ [x], fun y hy => List.mem_append_left _ (z1 y hy), List.mem_append_right _ List.mem_cons_self, fun p0 hs z => ?_⟩
        rw [putAh_app]
        have hc := cnt_kid ka
        have hc2 := H.cn
        have hn2 := H.n
        exact z4 _ hs ⟨hw, hx, z, z2.rt (by omega) (by omega), rb _ (List.mem_append_right _ List.mem_cons_self), rc _ (List.mem_append_right _ List.mem_cons_self)⟩
      | @tell _ _ a _ la s _ hh he h1 =>
        have hz : ∀ y, hdT t ≠ .lett y := fun y z => by rw [hh] at z; cases z
        have ka : a ∈ kidsT t := by rw [he]; simp
        obtain ⟨zs, z1, z2, z3, z4⟩ := (kd a ka).1 h1 hm (H.kid hz ka)
        have hc := cnt_kid ka
        have hc2 := H.cn
        have hn2 := H.n
        refine ⟨zs ++ [x], fun y hy => List.mem_append_left _ (z1 y hy), List.mem_append_right _ List.mem_cons_self, fun p0 hs z => ?_⟩
        rw [putAh_app]
        exact z4 _ hs ⟨hx, z2.rt (by omega) (by omega), z⟩
      | plain hp2 => rw [hp] at hp2; cases hp2
    have hS : ScS hd tk t := by
      intro m ls s m' n xs0 xs h hm H
      have hpos := cnt_pos t
      cases h with
      | leaf hl =>
        refine ⟨xs, fun _ z => z, ⟨H.ok, ?_, fun env he => ?_, H.ht⟩, Nat.le_refl _, fun _ _ z => z⟩
        · have har := H.ar.len
          obtain ⟨h0, n0, k0⟩ := t
          have e0 : n0 = 0 := by
            have e : (List.ofFn k0).length = n0 := List.length_ofFn
            rcases hl with ⟨z, e1⟩ | ⟨z, e1⟩ <;> (have e1 : h0 = _ := e1; subst e1; exact e.symm.trans har)
          subst e0
          rcases hl with ⟨z, e1⟩ | ⟨z, e1⟩ <;> (have e1 : h0 = _ := e1; subst e1; rfl)
        · have har := H.ar.len
          have on := okN_hd H.sc
          have hsu := H.su
          obtain ⟨h0, n0, k0⟩ := t
          have e0 : n0 = 0 := by
            have e : (List.ofFn k0).length = n0 := List.length_ofFn
            rcases hl with ⟨z, e1⟩ | ⟨z, e1⟩ <;> (have e1 : h0 = _ := e1; subst e1; exact e.symm.trans har)
          subst e0
          refine ⟨?_, fun i => i.elim0⟩
          rcases hl with ⟨z, e1⟩ | ⟨z, e1⟩
          · have e1 : h0 = _ := e1
            subst e1
            trivial
          · have e1 : h0 = _ := e1
            subst e1
            exact he z (hsu z on)
      | @op _ _ _ sa sb _ lo hh hL =>
        have hz : ∀ y, hdT t ≠ .lett y := fun y z => by rw [hh] at z; cases lo <;> cases z
        obtain ⟨zs, z1, z2, z3, z4⟩ := scL (fun u hu => (kd u hu).1) hL hm fun u hu => H.kid hz hu
        obtain ⟨n', rfl⟩ := ht_pos H.ht
        refine ⟨zs, z1, ⟨ok_mkL (by cases lo <;> trivial) fun u hu => (z2 u hu).ok, simple_mkL (by cases lo <;> rfl) fun u hu => (z2 u hu).si, fun env he => ⟨?_, fun i => (z2 _ (List.get_mem _ i)).nm env he⟩, ht_mkL fun u hu => (z2 u hu).ht⟩, ?_, z4⟩
        · cases lo <;> trivial
        · unfold mkOp
          rw [cnt_mkL]
          omega
      | @lett _ y a b _ la m1 lb _ _ hh he h1 _ h2 =>
        obtain ⟨zs, z1, Hb, z3⟩ := hlet H hh he h1 (Nat.le_trans h2.up hm)
        have kb : b ∈ kidsT t := by rw [he]; simp
        obtain ⟨ys, y1, y2, y3, y4⟩ := (kd b kb).1 h2 hm Hb
        have := cnt_kid kb
        exact ⟨ys, fun x hx => y1 x (z1 x hx), y2, by omega, fun p0 hs z => by rw [putAh_app]; exact z3 _ _ (y4 _ _ z)⟩
      | @word _ _ w m1 _ _ hw hn h1 =>
        have hpl : plainH (hdT t) = false := by
          cases hh : hdT t <;> rw [hh] at hw <;> first | rfl | cases hw
        have iw := isW_new hn (Nat.le_trans h1.up hm)
        obtain ⟨zs, z1, z2, z3⟩ := hP1 hpl h1 hm H iw
        obtain ⟨n', rfl⟩ := ht_pos H.ht
        exact ⟨zs, z1, sz_nam iw z2, by rw [cnt_mkL]; exact hpos, z3⟩
    have hP : ScP hd tk t := by
      cases hp : plainH (hdT t) with
      | false => exact hP1 hp
      | true =>
        intro x m ls m' n xs0 xs h hm H hx
        cases h with
        | plain _ h1 =>
          obtain ⟨zs, z1, z2, z3, z4⟩ := hS h1 hm H
          have hc2 := H.cn
          refine ⟨zs ++ [x], fun y hy => List.mem_append_left _ (z1 y hy), List.mem_append_right _ List.mem_cons_self, fun p0 hs z => ?_⟩
          rw [putAh_app]
          exact z4 _ hs ⟨hx, z2.rt (by omega) H.n, z⟩
        | lett hh _ _ _ _ => rw [hh] at hp; cases hp
        | ask hh _ _ => rw [hh] at hp; cases hp
        | iff hh _ _ _ _ _ _ _ => rw [hh] at hp; cases hp
        | tell hh _ _ => rw [hh] at hp; cases hp
    refine ⟨hS, hP, ?_⟩
    intro j m ls q m' n xs0 xs h hm H hs hj
    cases h with
    | @lett _ _ y a b _ la m1 lb _ _ hh he h1 _ h2 =>
      obtain ⟨zs, z1, Hb, z3⟩ := hlet H hh he h1 (Nat.le_trans h2.up hm)
      rw [putAh_app]
      exact z3 _ _ ((kd b (by rw [he]; simp)).2.2 h2 hm Hb hs hj)
    | @ask _ f _ _ la ss _ hh hL =>
      obtain ⟨zs, z1, z2, z3, z4⟩ := scL (fun u hu => (kd u hu).1) hL hm fun u hu => H.kid (fun y z => by rw [hh] at z; cases z) hu
      have of := okH_of H.ok
      rw [hh] at of
      have on := okN_hd H.sc
      rw [hh] at on
      have on : hd f = some (kidsT t).length := on
      have har := H.ar.len
      rw [hh] at har
      have har : (kidsT t).length ≤ 4 := har
      refine z4 _ hs ⟨hj, of, by rw [hL.len]; exact on, by rw [hL.len]; exact har, fun s hs2 => (z2 s hs2).rt ?_ ?_⟩
      · have := cnt_in hs2
        have := H.cn
        omega
      · have := H.n
        omega
    | @iff _ _ a b c _ la s m2 lb qb m3 lc qc _ hh he h1 h2 _ h3 =>
      have hz : ∀ y, hdT t ≠ .lett y := fun y z => by rw [hh] at z; cases z
      have ka : a ∈ kidsT t := by rw [he]; simp
      have kb : b ∈ kidsT t := by rw [he]; simp
      have kc : c ∈ kidsT t := by rw [he]; simp
      have u3 := h3.up
      have u2 := h2.up
      obtain ⟨zs, z1, z2, z3, z4⟩ := (kd a ka).1 h1 (by omega) (H.kid hz ka)
      have rb := (kd b kb).2.2 h2 (by omega) ((H.kid hz kb).more z1)
      have rc := (kd c kc).2.2 h3 hm ((H.kid hz kc).more z1)
      have hc := cnt_kid ka
      have hc2 := H.cn
      have hn2 := H.n
      exact z4 _ hs ⟨z2.rt (by omega) (by omega), rb _ hj, rc _ hj⟩
    | give _ _ h1 =>
      obtain ⟨zs, z1, z2, z3, z4⟩ := hS h1 hm H
      have hc2 := H.cn
      exact z4 _ hs ⟨hj, z2.rt (by omega) H.n⟩
end
end KB

namespace KB
open PySem L2

/-! ### no word of what is turned is bound twice: how often y is bound (words and posts' words) -/
def isy (y x : Str) : Nat := if x = y then 1 else 0
def cwP (y : Str) : Pt → Nat
  | .give _ _ => 0
  | .ask _ _ _ => 0
  | .tell x _ p => isy y x + cwP y p
  | .lett x _ p => isy y x + cwP y p
  | .iff _ p q => cwP y p + cwP y q
  | .post j x p q => isy y j + isy y x + (cwP y p + cwP y q)
def cwL (y : Str) : List Ld → Nat
  | [] => 0
  | .lett x _ :: r => isy y x + cwL y r
  | .tell x _ :: r => isy y x + cwL y r
  | .post j x u :: r => isy y j + isy y x + (cwP y u + cwL y r)
theorem cw_put (y : Str) : ∀ (ls : List Ld) (q : Pt), cwP y (putAh ls q) = cwL y ls + cwP y q
  | [], q => by show cwP y q = 0 + cwP y q; omega
  | .lett x _ :: r, q => by show isy y x + cwP y (putAh r q) = isy y x + cwL y r + cwP y q; rw [cw_put y r q]; omega
  | .tell x _ :: r, q => by show isy y x + cwP y (putAh r q) = isy y x + cwL y r + cwP y q; rw [cw_put y r q]; omega
  | .post j x u :: r, q => by show isy y j + isy y x + (cwP y (putAh r q) + cwP y u) = isy y j + isy y x + (cwP y u + cwL y r) + cwP y q; rw [cw_put y r q]; omega
theorem cw_app (y : Str) : ∀ (a b : List Ld), cwL y (a ++ b) = cwL y a + cwL y b
  | [], b => by show cwL y b = 0 + cwL y b; omega
  | .lett x _ :: r, b => by show isy y x + cwL y (r ++ b) = isy y x + cwL y r + cwL y b; rw [cw_app y r b]; omega
  | .tell x _ :: r, b => by show isy y x + cwL y (r ++ b) = isy y x + cwL y r + cwL y b; rw [cw_app y r b]; omega
  | .post j x u :: r, b => by show isy y j + isy y x + (cwP y u + cwL y (r ++ b)) = isy y j + isy y x + (cwP y u + cwL y r) + cwL y b; rw [cw_app y r b]; omega
open Classical in
/-- whether y is a new word told between m and m' -/
noncomputable def nbY (tk : List Str) (y : Str) (m m' : Nat) : Nat := if ∃ i, m ≤ i ∧ i < m' ∧ wordOf i ∉ tk ∧ wordOf i = y then 1 else 0
section
variable {tk : List Str} {y : Str}
theorem nb_le1 {m m' : Nat} : nbY tk y m m' ≤ 1 := by
  unfold nbY
  split <;> omega
theorem nb_add {m m1 m2 : Nat} (h1 : m ≤ m1) (h2 : m1 ≤ m2) : nbY tk y m m1 + nbY tk y m1 m2 ≤ nbY tk y m m2 := by
  unfold nbY
  by_cases a : ∃ i, m ≤ i ∧ i < m1 ∧ wordOf i ∉ tk ∧ wordOf i = y
  · obtain ⟨i, a1, a2, a3, a4⟩ := a
    have hb : ¬ ∃ i, m1 ≤ i ∧ i < m2 ∧ wordOf i ∉ tk ∧ wordOf i = y := by
      rintro ⟨j, b1, b2, b3, b4⟩
      have := wordOf_inj (a4.trans b4.symm)
      omega
    rw [if_pos ⟨i, a1, a2, a3, a4⟩, if_neg hb, if_pos ⟨i, a1, by omega, a3, a4⟩]
    exact Nat.le_refl _
  · rw [if_neg a]
    by_cases b : ∃ i, m1 ≤ i ∧ i < m2 ∧ wordOf i ∉ tk ∧ wordOf i = y
    · obtain ⟨i, b1, b2, b3, b4⟩ := b
      rw [if_pos ⟨i, b1, b2, b3, b4⟩, if_pos ⟨i, by omega, b2, b3, b4⟩]
      exact Nat.le_refl _
    · rw [if_neg b]
      exact Nat.zero_le _
theorem nb_new {m m1 : Nat} {w : Str} (h : NwR tk m w m1) : isy y w ≤ nbY tk y m m1 := by
  obtain ⟨k, h1, _, rfl, h3, rfl, _⟩ := h
  unfold isy nbY
  by_cases e : wordOf k = y
  · rw [if_pos e, if_pos ⟨k, h1, by omega, h3, e⟩]
    exact Nat.le_refl _
  · rw [if_neg e]
    exact Nat.zero_le _
theorem nb_tk {m m' : Nat} (h : y ∈ tk) : nbY tk y m m' = 0 := by
  unfold nbY
  rw [if_neg]
  rintro ⟨i, _, _, a, b⟩
  exact a (b ▸ h)
def lcY (y : Str) (ls : List Str) : Nat := ls.count y
theorem lc_app {a b : List Str} : lcY y (a ++ b) = lcY y a + lcY y b := List.count_append
theorem lc_lets {t : Tm} {x : Str} {a b : Tm} (hh : hdT t = .lett x) (he : kidsT t = [a, b]) : lcY y (letsOf t) = isy y x + (lcY y (letsOf a) + lcY y (letsOf b)) := by
  rw [lets_eq, hh, he, letsL_two]
  show lcY y ([x] ++ (letsOf a ++ letsOf b)) = _
  rw [lc_app, lc_app]
  congr 1
  unfold lcY isy
  rw [List.count_singleton]
  by_cases e : x = y
  · rw [if_pos e]; simp [e]
  · rw [if_neg e]; simp [e]
theorem lc_flat {t : Tm} (hh : hdLets (hdT t) = []) : lcY y (letsOf t) = lcY y (letsL (kidsT t)) := by
  rw [lets_eq, hh]
  rfl
theorem lc_one {a : Tm} : lcY y (letsL [a]) = lcY y (letsOf a) := by
  rw [letsL_cons, lc_app]
  rfl
theorem lc_three {a b c : Tm} : lcY y (letsL [a, b, c]) = lcY y (letsOf a) + (lcY y (letsOf b) + lcY y (letsOf c)) := by
  rw [letsL_three, lc_app, lc_app]
def WS (tk : List Str) (y : Str) (t : Tm) : Prop := ∀ {m ls s m'}, CpS tk t m ls s m' → cwL y ls ≤ lcY y (letsOf t) + nbY tk y m m'
def WP (tk : List Str) (y : Str) (t : Tm) : Prop := ∀ {x m ls m'}, CpP tk t x m ls m' → cwL y ls ≤ isy y x + (lcY y (letsOf t) + nbY tk y m m')
def WD (tk : List Str) (y : Str) (t : Tm) : Prop := ∀ {j m ls q m'}, CpD tk t j m ls q m' → cwL y ls + cwP y q ≤ lcY y (letsOf t) + nbY tk y m m'
theorem wL : ∀ {ts : List Tm}, (∀ u ∈ ts, WS tk y u) → ∀ {m ls ss m'}, CpL tk ts m ls ss m' → cwL y ls ≤ lcY y (letsL ts) + nbY tk y m m'
  | [], _, m, ls, ss, m', h => by
    cases h
    exact Nat.zero_le _
  | t :: ts, ih, m, ls, ss, m', h => by
    cases h with
    | cons h1 _ h2 =>
      have a1 := ih t List.mem_cons_self h1
      have b1 := wL (fun u hu => ih u (List.mem_cons_of_mem _ hu)) h2
      have n1 := nb_add (tk := tk) (y := y) h1.up h2.up
      rw [letsL_cons, cw_app, lc_app]
      omega
theorem w_ (tk : List Str) (y : Str) (n : Nat) : ∀ t, cnt t ≤ n → WS tk y t ∧ WP tk y t ∧ WD tk y t := by
  induction n with
  | zero =>
    intro t h
    have := cnt_pos t
    omega
  | succ n ih =>
    intro t hn
    have kd : ∀ u ∈ kidsT t, WS tk y u ∧ WP tk y u ∧ WD tk y u := fun u hu => ih u (by have := cnt_kid hu; omega)
    have hP1 : plainH (hdT t) = false → WP tk y t := by
      intro hp x m ls m' h
      cases h with
      | @lett _ _ z a b _ la m1 lb _ hh he h1 _ h2 =>
        have a1 := (kd a (by rw [he]; simp)).2.1 h1
        have b1 := (kd b (by rw [he]; simp)).2.1 h2
        have n1 := nb_add (tk := tk) (y := y) h1.up h2.up
        rw [cw_app, lc_lets hh he]
        omega
      | @ask _ f _ w _ m1 la ss _ hh hn hL =>
        have a1 := wL (fun u hu => (kd u hu).1) hL
        have n1 := nb_add (tk := tk) (y := y) hn.lt hL.up
        have n2 := nb_new (y := y) hn
        rw [cw_app, lc_flat (by rw [hh]; rfl)]
        show cwL y la + (isy y w + isy y x + (0 + 0)) ≤ _
        omega
      | @iff _ _ w a b c _ m1 la s m2 lb qb m3 lc qc _ hh he hn h1 h2 _ h3 _ =>
        have a1 := (kd a (by rw [he]; simp)).1 h1
        have b1 := (kd b (by rw [he]; simp)).2.2 h2
        have c1 := (kd c (by rw [he]; simp)).2.2 h3
        have n1 := nb_add (tk := tk) (y := y) h2.up h3.up
        have n2 := nb_add (tk := tk) (y := y) h1.up (Nat.le_trans h2.up h3.up)
        have n3 := nb_add (tk := tk) (y := y) hn.lt (Nat.le_trans h1.up (Nat.le_trans h2.up h3.up))
        have n4 := nb_new (y := y) hn
        rw [cw_app, lc_flat (by rw [hh]; rfl), he, lc_three]
        show cwL y la + (isy y w + isy y x + ((cwP y (putAh lb qb) + cwP y (putAh lc qc)) + 0)) ≤ _
        rw [cw_put, cw_put]
        omega
      | @tell _ _ a _ la s _ hh he h1 =>
        have a1 := (kd a (by rw [he]; simp)).1 h1
        rw [cw_app, lc_flat (by rw [hh]; rfl), he, lc_one]
        show cwL y la + (isy y x + 0) ≤ _
        omega
      | plain hp2 => rw [hp] at hp2; cases hp2
    have hS : WS tk y t := by
      intro m ls s m' h
      cases h with
      | leaf hl => exact Nat.zero_le _
      | @op _ _ _ sa sb _ lo hh hL =>
        have a1 := wL (fun u hu => (kd u hu).1) hL
        rw [lc_flat (by rw [hh]; cases lo <;> rfl)]
        exact a1
      | @lett _ z a b _ la m1 lb _ _ hh he h1 _ h2 =>
        have a1 := (kd a (by rw [he]; simp)).2.1 h1
        have b1 := (kd b (by rw [he]; simp)).1 h2
        have n1 := nb_add (tk := tk) (y := y) h1.up h2.up
        rw [cw_app, lc_lets hh he]
        omega
      | @word _ _ w m1 _ _ hw hn h1 =>
        have hpl : plainH (hdT t) = false := by
          cases hh : hdT t <;> rw [hh] at hw <;> first | rfl | cases hw
        have a1 := hP1 hpl h1
        have n1 := nb_add (tk := tk) (y := y) hn.lt h1.up
        have n2 := nb_new (y := y) hn
        omega
    have hP : WP tk y t := by
      cases hp : plainH (hdT t) with
      | false => exact hP1 hp
      | true =>
        intro x m ls m' h
        cases h with
        | plain _ h1 =>
          have a1 := hS h1
          rw [cw_app]
          show _ + (isy y x + 0) ≤ _
          omega
        | lett hh _ _ _ _ => rw [hh] at hp; cases hp
        | ask hh _ _ => rw [hh] at hp; cases hp
        | iff hh _ _ _ _ _ _ _ => rw [hh] at hp; cases hp
        | tell hh _ _ => rw [hh] at hp; cases hp
    refine ⟨hS, hP, ?_⟩
    intro j m ls q m' h
    cases h with
    | @lett _ _ z a b _ la m1 lb _ _ hh he h1 _ h2 =>
      have a1 := (kd a (by rw [he]; simp)).2.1 h1
      have b1 := (kd b (by rw [he]; simp)).2.2 h2
      have n1 := nb_add (tk := tk) (y := y) h1.up h2.up
      rw [cw_app, lc_lets hh he]
      omega
    | @ask _ f _ _ la ss _ hh hL =>
      have a1 := wL (fun u hu => (kd u hu).1) hL
      rw [lc_flat (by rw [hh]; rfl)]
      show cwL y _ + 0 ≤ _
      omega
    | @iff _ _ a b c _ la s m2 lb qb m3 lc qc _ hh he h1 h2 _ h3 =>
      have a1 := (kd a (by rw [he]; simp)).1 h1
      have b1 := (kd b (by rw [he]; simp)).2.2 h2
      have c1 := (kd c (by rw [he]; simp)).2.2 h3
      have n1 := nb_add (tk := tk) (y := y) h2.up h3.up
      have n2 := nb_add (tk := tk) (y := y) h1.up (Nat.le_trans h2.up h3.up)
      rw [lc_flat (by rw [hh]; rfl), he, lc_three]
      show cwL y ls + (cwP y (putAh lb qb) + cwP y (putAh lc qc)) ≤ _
      rw [cw_put, cw_put]
      omega
    | give _ _ h1 =>
      have a1 := hS h1
      show cwL y ls + 0 ≤ _
      omega
end
end KB

namespace KB
open PySem L2

/-! ### how large and how deep what is turned is -/
def nLd : List Ld → Nat
  | [] => 0
  | .lett _ s :: r => 1 + cnt s + nLd r
  | .tell _ s :: r => 1 + cnt s + nLd r
  | .post _ _ u :: r => 1 + N.ncnt u + nLd r
theorem nLd_put : ∀ (ls : List Ld) (q : Pt), N.ncnt (putAh ls q) = nLd ls + N.ncnt q
  | [], q => by show N.ncnt q = 0 + N.ncnt q; omega
  | .lett _ s :: r, q => by show 1 + cnt s + N.ncnt (putAh r q) = 1 + cnt s + nLd r + N.ncnt q; rw [nLd_put r q]; omega
  | .tell _ s :: r, q => by show 1 + cnt s + N.ncnt (putAh r q) = 1 + cnt s + nLd r + N.ncnt q; rw [nLd_put r q]; omega
  | .post _ _ u :: r, q => by show 1 + N.ncnt (putAh r q) + N.ncnt u = 1 + N.ncnt u + nLd r + N.ncnt q; rw [nLd_put r q]; omega
theorem nLd_app : ∀ (a b : List Ld), nLd (a ++ b) = nLd a + nLd b
  | [], b => by show nLd b = 0 + nLd b; omega
  | .lett _ s :: r, b => by show 1 + cnt s + nLd (r ++ b) = 1 + cnt s + nLd r + nLd b; rw [nLd_app r b]; omega
  | .tell _ s :: r, b => by show 1 + cnt s + nLd (r ++ b) = 1 + cnt s + nLd r + nLd b; rw [nLd_app r b]; omega
  | .post _ _ u :: r, b => by show 1 + N.ncnt u + nLd (r ++ b) = 1 + N.ncnt u + nLd r + nLd b; rw [nLd_app r b]; omega
def dT (t : Tm) : Nat := (N.pd t).depth
def dP (p : Pt) : Nat := (N.pdP p).depth
theorem dT_pos (t : Tm) : 1 ≤ dT t := by
  obtain ⟨h, n, k⟩ := t
  show 1 ≤ (N.pdH h _).depth
  cases h <;> exact Nat.succ_le_succ (Nat.zero_le _)
def dL : List Ld → Nat → Nat
  | [], D => D
  | .lett _ s :: r, D => 1 + max (dT s) (dL r D)
  | .tell _ s :: r, D => 1 + max (dT s) (dL r D)
  | .post _ _ u :: r, D => 1 + max (dL r D) (dP u)
theorem dep4 (x y : Str) (a b : PyData) : (PyData.tuple [.str x, .str y, a, b]).depth = 1 + max a.depth b.depth := by
  show max 0 (max 0 (max a.depth (max b.depth 0))) + 1 = _
  omega
theorem dep5 (x y z : Str) (a b : PyData) : (PyData.tuple [.str x, .str y, .str z, a, b]).depth = 1 + max a.depth b.depth := by
  show max 0 (max 0 (max 0 (max a.depth (max b.depth 0)))) + 1 = _
  omega
theorem dP_put : ∀ (ls : List Ld) (q : Pt), dP (putAh ls q) = dL ls (dP q)
  | [], q => rfl
  | .lett x s :: r, q => by
    show (PyData.tuple [.str "let", .str x, N.pd s, N.pdP (putAh r q)]).depth = 1 + max (dT s) (dL r (dP q))
    rw [dep4, ← dP_put r q]
    rfl
  | .tell x s :: r, q => by
    show (PyData.tuple [.str "tell", .str x, N.pd s, N.pdP (putAh r q)]).depth = 1 + max (dT s) (dL r (dP q))
    rw [dep4, ← dP_put r q]
    rfl
  | .post j x u :: r, q => by
    show (PyData.tuple [.str "post", .str j, .str x, N.pdP (putAh r q), N.pdP u]).depth = 1 + max (dL r (dP q)) (dP u)
    rw [dep5, ← dP_put r q]
    rfl
theorem dL_app : ∀ (a b : List Ld) (D : Nat), dL (a ++ b) D = dL a (dL b D)
  | [], b, D => rfl
  | .lett _ s :: r, b, D => by show 1 + max (dT s) (dL (r ++ b) D) = 1 + max (dT s) (dL r (dL b D)); rw [dL_app r b D]
  | .tell _ s :: r, b, D => by show 1 + max (dT s) (dL (r ++ b) D) = 1 + max (dT s) (dL r (dL b D)); rw [dL_app r b D]
  | .post _ _ u :: r, b, D => by show 1 + max (dL (r ++ b) D) (dP u) = 1 + max (dL r (dL b D)) (dP u); rw [dL_app r b D]
theorem dT_op (l : Bool) (a b : Tm) : dT (mkOp l a b) = 1 + max (dT a) (dT b) := by
  unfold dT mkOp
  rw [N.pd_mkL]
  cases l
  · show max 0 (max (N.pd a).depth (max (N.pd b).depth 0)) + 1 = _
    omega
  · show max 0 (max (N.pd a).depth (max (N.pd b).depth 0)) + 1 = _
    omega
theorem dep_list {ts : List Tm} {m : Nat} (h : ∀ t ∈ ts, dT t ≤ m) : (PyData.tuple (ts.map N.pd)).depth ≤ m + 1 := N.depth_tup fun d hd => by
  obtain ⟨t, ht, rfl⟩ := List.mem_map.mp hd
  exact h t ht
theorem dP_ask {f j : Str} {ts : List Tm} {m : Nat} (h : ∀ t ∈ ts, dT t ≤ m) : dP (.ask f ts j) ≤ m + 2 := by
  have := dep_list h
  show max 0 (max 0 (max (PyData.tuple (ts.map N.pd)).depth (max 0 0))) + 1 ≤ m + 2
  omega
theorem dP_iff (s : Tm) (p q : Pt) : dP (.iff s p q) = 1 + max (dT s) (max (dP p) (dP q)) := by
  show max 0 (max (N.pd s).depth (max (N.pdP p).depth (max (N.pdP q).depth 0))) + 1 = 1 + max (N.pd s).depth (max (N.pdP p).depth (N.pdP q).depth)
  omega
theorem dP_give (j : Str) (s : Tm) : dP (.give j s) = 1 + dT s := by
  show max 0 (max 0 (max (N.pd s).depth 0)) + 1 = 1 + (N.pd s).depth
  omega
section
variable {tk : List Str}
def NS (tk : List Str) (t : Tm) : Prop := ∀ {m ls s m'}, CpS tk t m ls s m' → nLd ls + cnt s ≤ 5 * cnt t ∧ (plainH (hdT t) = true → nLd ls + cnt s ≤ 5 * cnt t - 3)
def NP (tk : List Str) (t : Tm) : Prop := ∀ {x m ls m'}, CpP tk t x m ls m' → nLd ls + 1 ≤ 5 * cnt t
def ND (tk : List Str) (t : Tm) : Prop := ∀ {j m ls q m'}, CpD tk t j m ls q m' → nLd ls + N.ncnt q ≤ 5 * cnt t + 1
theorem nLL : ∀ {ts : List Tm}, (∀ u ∈ ts, NS tk u) → ∀ {m ls ss m'}, CpL tk ts m ls ss m' → nLd ls + cnts ss ≤ 5 * cnts ts
  | [], _, m, ls, ss, m', h => by
    cases h
    exact Nat.zero_le _
  | t :: ts, ih, m, ls, ss, m', h => by
    cases h with
    | cons h1 _ h2 =>
      obtain ⟨a1, _⟩ := ih t List.mem_cons_self h1
      have b1 := nLL (fun u hu => ih u (List.mem_cons_of_mem _ hu)) h2
      rw [cnts_cons, cnts_cons, nLd_app]
      omega
theorem cnt_op (l : Bool) (a b : Tm) : cnt (mkOp l a b) = 1 + (cnt a + cnt b) := by
  unfold mkOp
  rw [cnt_mkL, cnts_two]
theorem nsz_ (tk : List Str) (n : Nat) : ∀ t, cnt t ≤ n → NS tk t ∧ NP tk t ∧ ND tk t := by
  induction n with
  | zero =>
    intro t h
    have := cnt_pos t
    omega
  | succ n ih =>
    intro t hn
    have kd : ∀ u ∈ kidsT t, NS tk u ∧ NP tk u ∧ ND tk u := fun u hu => ih u (by have := cnt_kid hu; omega)
    have hk := cnt_kids t
    have hP1 : plainH (hdT t) = false → NP tk t := by
      intro hp x m ls m' h
      cases h with
      | @lett _ _ y a b _ la m1 lb _ hh he h1 _ h2 =>
        have a1 := (kd a (by rw [he]; simp)).2.1 h1
        have b1 := (kd b (by rw [he]; simp)).2.1 h2
        rw [he, cnts_two] at hk
        rw [nLd_app]
        omega
      | @ask _ f _ w _ m1 la ss _ hh hn hL =>
        have a1 := nLL (fun u hu => (kd u hu).1) hL
        rw [nLd_app]
        show nLd la + (1 + (1 + cnts ss) + 0) + 1 ≤ _
        omega
      | @iff _ _ w a b c _ m1 la s m2 lb qb m3 lc qc _ hh he hn h1 h2 _ h3 _ =>
        have a1 := ((kd a (by rw [he]; simp)).1 h1).1
        have b1 := (kd b (by rw [he]; simp)).2.2 h2
        have c1 := (kd c (by rw [he]; simp)).2.2 h3
        rw [he, cnts_three] at hk
        rw [nLd_app]
        show nLd la + (1 + (1 + cnt s + N.ncnt (putAh lb qb) + N.ncnt (putAh lc qc)) + 0) + 1 ≤ _
        rw [nLd_put, nLd_put]
        omega
      | @tell _ _ a _ la s _ hh he h1 =>
        have a1 := ((kd a (by rw [he]; simp)).1 h1).1
        rw [he, cnts_one] at hk
        rw [nLd_app]
        show nLd la + (1 + cnt s + 0) + 1 ≤ _
        omega
      | plain hp2 => rw [hp] at hp2; cases hp2
    have hS : NS tk t := by
      intro m ls s m' h
      have hpos := cnt_pos t
      cases h with
      | leaf hl =>
        have : nLd [] = 0 := rfl
        exact ⟨by omega, fun _ => by omega⟩
      | @op _ _ _ sa sb _ lo hh hL =>
        have a1 := nLL (fun u hu => (kd u hu).1) hL
        rw [cnts_two] at a1
        rw [cnt_op]
        exact ⟨by omega, fun _ => by omega⟩
      | @lett _ y a b _ la m1 lb _ _ hh he h1 _ h2 =>
        have a1 := (kd a (by rw [he]; simp)).2.1 h1
        have b1 := ((kd b (by rw [he]; simp)).1 h2).1
        rw [he, cnts_two] at hk
        rw [nLd_app]
        exact ⟨by omega, fun z => by rw [hh] at z; cases z⟩
      | @word _ _ w m1 _ _ hw hn h1 =>
        have hpl : plainH (hdT t) = false := by
          cases hh : hdT t <;> rw [hh] at hw <;> first | rfl | cases hw
        have a1 := hP1 hpl h1
        have : cnt (mkL (.nam w) []) = 1 := rfl
        exact ⟨by omega, fun z => by rw [hpl] at z; cases z⟩
    have hP : NP tk t := by
      cases hp : plainH (hdT t) with
      | false => exact hP1 hp
      | true =>
        intro x m ls m' h
        have hpos := cnt_pos t
        cases h with
        | @plain _ _ _ la s _ _ h1 =>
          have a1 := (hS h1).2 hp
          rw [nLd_app]
          show nLd la + (1 + cnt s + 0) + 1 ≤ _
          omega
        | lett hh _ _ _ _ => rw [hh] at hp; cases hp
        | ask hh _ _ => rw [hh] at hp; cases hp
        | iff hh _ _ _ _ _ _ _ => rw [hh] at hp; cases hp
        | tell hh _ _ => rw [hh] at hp; cases hp
    refine ⟨hS, hP, ?_⟩
    intro j m ls q m' h
    have hpos := cnt_pos t
    cases h with
    | @lett _ _ y a b _ la m1 lb _ _ hh he h1 _ h2 =>
      have a1 := (kd a (by rw [he]; simp)).2.1 h1
      have b1 := (kd b (by rw [he]; simp)).2.2 h2
      rw [he, cnts_two] at hk
      rw [nLd_app]
      omega
    | @ask _ f _ _ la ss _ hh hL =>
      have a1 := nLL (fun u hu => (kd u hu).1) hL
      show nLd _ + (1 + cnts ss) ≤ _
      omega
    | @iff _ _ a b c _ la s m2 lb qb m3 lc qc _ hh he h1 h2 _ h3 =>
      have a1 := ((kd a (by rw [he]; simp)).1 h1).1
      have b1 := (kd b (by rw [he]; simp)).2.2 h2
      have c1 := (kd c (by rw [he]; simp)).2.2 h3
      rw [he, cnts_three] at hk
      show nLd _ + (1 + cnt s + N.ncnt (putAh lb qb) + N.ncnt (putAh lc qc)) ≤ _
      rw [nLd_put, nLd_put]
      omega
    | @give _ _ _ la s _ _ _ h1 =>
      have a1 := (hS h1).1
      show nLd _ + (1 + cnt s) ≤ _
      omega
def DS (tk : List Str) (t : Tm) : Prop := ∀ {m ls s m'}, CpS tk t m ls s m' → ∃ a, a + dT s ≤ cnt t + 1 ∧ (plainH (hdT t) = true → a + 1 ≤ cnt t) ∧ ∀ D, dL ls D ≤ max (D + a) (cnt t + 3)
def DPp (tk : List Str) (t : Tm) : Prop := ∀ {x m ls m'}, CpP tk t x m ls m' → ∃ a, a ≤ cnt t ∧ ∀ D, dL ls D ≤ max (D + a) (cnt t + 3)
def DD (tk : List Str) (t : Tm) : Prop := ∀ {j m ls q m'}, CpD tk t j m ls q m' → dL ls (dP q) ≤ cnt t + 3
theorem dLL : ∀ {ts : List Tm}, (∀ u ∈ ts, DS tk u) → ∀ {m ls ss m'}, CpL tk ts m ls ss m' → ∃ a, a ≤ cnts ts ∧ (∀ s ∈ ss, a + dT s ≤ cnts ts + 1) ∧ ∀ D, dL ls D ≤ max (D + a) (cnts ts + 3)
  | [], _, m, ls, ss, m', h => by
    cases h
    exact ⟨0, Nat.le_refl _, fun s z => absurd z List.not_mem_nil, fun D => by show D ≤ _; omega⟩
  | t :: ts, ih, m, ls, ss, m', h => by
    cases h with
    | @cons _ _ _ la s _ lb ss _ h1 _ h2 =>
      obtain ⟨a, a1, _, a3⟩ := ih t List.mem_cons_self h1
      obtain ⟨b, b1, b2, b3⟩ := dLL (fun u hu => ih u (List.mem_cons_of_mem _ hu)) h2
      have hp := dT_pos s
      rw [cnts_cons]
      refine ⟨a + b, by omega, fun u hu => ?_, fun D => ?_⟩
      · rcases List.mem_cons.mp hu with rfl | hu
        · omega
        · have := b2 u hu
          omega
      · rw [dL_app]
        have := a3 (dL lb D)
        have := b3 D
        omega
theorem dpt_ (tk : List Str) (n : Nat) : ∀ t, cnt t ≤ n → DS tk t ∧ DPp tk t ∧ DD tk t := by
  induction n with
  | zero =>
    intro t h
    have := cnt_pos t
    omega
  | succ n ih =>
    intro t hn
    have kd : ∀ u ∈ kidsT t, DS tk u ∧ DPp tk u ∧ DD tk u := fun u hu => ih u (by have := cnt_kid hu; omega)
    have hk := cnt_kids t
    have hP1 : plainH (hdT t) = false → DPp tk t := by
      intro hp x m ls m' h
      cases h with
      | @lett _ _ y a b _ la m1 lb _ hh he h1 _ h2 =>
        obtain ⟨a0, a1, a2⟩ := (kd a (by rw [he]; simp)).2.1 h1
        obtain ⟨b0, b1, b2⟩ := (kd b (by rw [he]; simp)).2.1 h2
        rw [he, cnts_two] at hk
        refine ⟨a0 + b0, by omega, fun D => ?_⟩
        rw [dL_app]
        have := a2 (dL lb D)
        have := b2 D
        omega
      | @ask _ f _ w _ m1 la ss _ hh hn hL =>
        obtain ⟨a0, a1, a2, a3⟩ := dLL (fun u hu => (kd u hu).1) hL
        refine ⟨a0 + 1, by omega, fun D => ?_⟩
        rw [dL_app]
        have h1 := a3 (dL [.post w x (.ask f ss w)] D)
        have h2 : dP (.ask f ss w) ≤ (cnts (kidsT t) + 1 - a0) + 2 := dP_ask fun s hs => by have := a2 s hs; omega
        have h3 : dL [.post w x (.ask f ss w)] D = 1 + max D (dP (.ask f ss w)) := rfl
        omega
      | @iff _ _ w a b c _ m1 la s m2 lb qb m3 lc qc _ hh he hn h1 h2 _ h3 _ =>
        obtain ⟨a0, a1, _, a3⟩ := (kd a (by rw [he]; simp)).1 h1
        have b1 := (kd b (by rw [he]; simp)).2.2 h2
        have c1 := (kd c (by rw [he]; simp)).2.2 h3
        rw [he, cnts_three] at hk
        have hs := dT_pos s
        refine ⟨a0 + 1, by omega, fun D => ?_⟩
        rw [dL_app]
        have e1 := a3 (dL [.post w x (.iff s (putAh lb qb) (putAh lc qc))] D)
        have e2 := dP_iff s (putAh lb qb) (putAh lc qc)
        rw [dP_put, dP_put] at e2
        have e3 : dL [.post w x (.iff s (putAh lb qb) (putAh lc qc))] D = 1 + max D (dP (.iff s (putAh lb qb) (putAh lc qc))) := rfl
        have := cnt_pos b
        have := cnt_pos c
        omega
      | @tell _ _ a _ la s _ hh he h1 =>
        obtain ⟨a0, a1, _, a3⟩ := (kd a (by rw [he]; simp)).1 h1
        rw [he, cnts_one] at hk
        have hs := dT_pos s
        refine ⟨a0 + 1, by omega, fun D => ?_⟩
        rw [dL_app]
        have e1 := a3 (dL [.tell x s] D)
        have e3 : dL [.tell x s] D = 1 + max (dT s) D := rfl
        omega
      | plain hp2 => rw [hp] at hp2; cases hp2
    have hS : DS tk t := by
      intro m ls s m' h
      have hpos := cnt_pos t
      cases h with
      | leaf hl =>
        have e : dT t = 1 := by
          obtain ⟨h0, n0, k0⟩ := t
          rcases hl with ⟨z, hz⟩ | ⟨z, hz⟩
          · have hz : h0 = .num z := hz
            subst hz
            rfl
          · have hz : h0 = .nam z := hz
            subst hz
            rfl
        exact ⟨0, by omega, fun _ => by omega, fun D => by show D ≤ _; omega⟩
      | @op _ _ _ sa sb _ lo hh hL =>
        obtain ⟨a0, a1, a2, a3⟩ := dLL (fun u hu => (kd u hu).1) hL
        have e1 := a2 sa List.mem_cons_self
        have e2 := a2 sb (List.mem_cons_of_mem _ List.mem_cons_self)
        rw [dT_op]
        exact ⟨a0, by omega, fun _ => by omega, fun D => by have := a3 D; omega⟩
      | @lett _ y a b _ la m1 lb _ _ hh he h1 _ h2 =>
        obtain ⟨a0, a1, a2⟩ := (kd a (by rw [he]; simp)).2.1 h1
        obtain ⟨b0, b1, _, b3⟩ := (kd b (by rw [he]; simp)).1 h2
        rw [he, cnts_two] at hk
        refine ⟨a0 + b0, by omega, (fun z => by rw [hh] at z; cases z), fun D => ?_⟩
        rw [dL_app]
        have := a2 (dL lb D)
        have := b3 D
        omega
      | @word _ _ w m1 _ _ hw hn h1 =>
        have hpl : plainH (hdT t) = false := by
          cases hh : hdT t <;> rw [hh] at hw <;> first | rfl | cases hw
        obtain ⟨a0, a1, a2⟩ := hP1 hpl h1
        have : dT (mkL (.nam w) []) = 1 := rfl
        exact ⟨a0, by omega, (fun z => by rw [hpl] at z; cases z), a2⟩
    have hP : DPp tk t := by
      cases hp : plainH (hdT t) with
      | false => exact hP1 hp
      | true =>
        intro x m ls m' h
        have hpos := cnt_pos t
        cases h with
        | @plain _ _ _ la s _ _ h1 =>
          obtain ⟨a0, a1, a2, a3⟩ := hS h1
          have a2 := a2 hp
          have hs := dT_pos s
          refine ⟨a0 + 1, by omega, fun D => ?_⟩
          rw [dL_app]
          have e1 := a3 (dL [.lett x s] D)
          have e3 : dL [.lett x s] D = 1 + max (dT s) D := rfl
          omega
        | lett hh _ _ _ _ => rw [hh] at hp; cases hp
        | ask hh _ _ => rw [hh] at hp; cases hp
        | iff hh _ _ _ _ _ _ _ => rw [hh] at hp; cases hp
        | tell hh _ _ => rw [hh] at hp; cases hp
    refine ⟨hS, hP, ?_⟩
    intro j m ls q m' h
    have hpos := cnt_pos t
    cases h with
    | @lett _ _ y a b _ la m1 lb _ _ hh he h1 _ h2 =>
      obtain ⟨a0, a1, a2⟩ := (kd a (by rw [he]; simp)).2.1 h1
      have b1 := (kd b (by rw [he]; simp)).2.2 h2
      rw [he, cnts_two] at hk
      rw [dL_app]
      have := a2 (dL lb (dP q))
      omega
    | @ask _ f _ _ la ss _ hh hL =>
      obtain ⟨a0, a1, a2, a3⟩ := dLL (fun u hu => (kd u hu).1) hL
      have h2 : dP (.ask f ss j) ≤ (cnts (kidsT t) + 1 - a0) + 2 := dP_ask fun s hs => by have := a2 s hs; omega
      have := a3 (dP (.ask f ss j))
      omega
    | @iff _ _ a b c _ la s m2 lb qb m3 lc qc _ hh he h1 h2 _ h3 =>
      obtain ⟨a0, a1, _, a3⟩ := (kd a (by rw [he]; simp)).1 h1
      have b1 := (kd b (by rw [he]; simp)).2.2 h2
      have c1 := (kd c (by rw [he]; simp)).2.2 h3
      rw [he, cnts_three] at hk
      have hs := dT_pos s
      have e1 := a3 (dP (.iff s (putAh lb qb) (putAh lc qc)))
      have e2 := dP_iff s (putAh lb qb) (putAh lc qc)
      rw [dP_put, dP_put] at e2
      have := cnt_pos b
      have := cnt_pos c
      omega
    | @give _ _ _ la s _ _ _ h1 =>
      obtain ⟨a0, a1, _, a3⟩ := hS h1
      have e1 := a3 (dP (.give j s))
      rw [dP_give] at e1
      rw [dP_give]
      omega
/-! ### an errand turned can be told anew -/
end
/-- the words and the hand-ons' words, each once -/
theorem cw_words {y : Str} : ∀ {p : Pt}, (N.wP p).count y + (N.jP p).count y ≤ cwP y p := by
  intro p
  have one : ∀ (x : Str) (l : List Str), (x :: l).count y = isy y x + l.count y := fun x l => by
    rw [List.count_cons]
    unfold isy
    by_cases c : x = y
    · rw [if_pos c, if_pos (by simp [c])]; omega
    · rw [if_neg c, if_neg (by simp [c])]; omega
  induction p with
  | give j t => exact Nat.le_refl _
  | ask f ts j => exact Nat.le_refl _
  | tell x t p ih =>
    show (x :: N.wP p).count y + (N.jP p).count y ≤ isy y x + cwP y p
    rw [one]; omega
  | lett x t p ih =>
    show (x :: N.wP p).count y + (N.jP p).count y ≤ isy y x + cwP y p
    rw [one]; omega
  | iff t p q ih1 ih2 =>
    show (N.wP p ++ N.wP q).count y + (N.jP p ++ N.jP q).count y ≤ cwP y p + cwP y q
    rw [List.count_append, List.count_append]; omega
  | post j x p q ih1 ih2 =>
    show (x :: (N.wP p ++ N.wP q)).count y + (j :: (N.jP p ++ N.jP q)).count y ≤ isy y j + isy y x + (cwP y p + cwP y q)
    rw [one, one, List.count_append, List.count_append]; omega
theorem rtm_nms {xs : List Str} {t : Tm} (h : N.RTm xs t) : ∀ y ∈ N.nmsT t, y ∈ xs := by
  have aux : ∀ {t : Tm}, N.hasN (fun x => if x ∈ xs then some 0 else none) t → simple t = true → ∀ y ∈ N.nmsT t, y ∈ xs := by
    intro t
    induction t with
    | mk h n k ih =>
      rintro ⟨n1, n2⟩ hs y hy
      obtain ⟨s1, s2⟩ := N.simple_mk hs
      rw [N.nms_mk] at hy
      rcases List.mem_append.mp hy with z | z
      · cases h with
        | nam x =>
          rw [List.mem_singleton.mp z]
          obtain ⟨v, hv⟩ := n1
          have hv : (if x ∈ xs then some (0 : Int) else none) = some v := hv
          by_cases c : x ∈ xs
          · exact c
          · rw [if_neg c] at hv
            cases hv
        | lett x => cases s1
        | _ => cases z
      · obtain ⟨l, hl, hy2⟩ := List.mem_flatten.mp z
        obtain ⟨u, hu, rfl⟩ := List.mem_map.mp hl
        obtain ⟨i, rfl⟩ := List.mem_ofFn.mp hu
        exact ih i (n2 i) (s2 i) y hy2
  exact aux (h.n _ fun x hx => ⟨0, if_pos hx⟩) h.si
theorem rtm_tw {xs ws : List Str} {t : Tm} (h : N.RTm xs t) (hx : ∀ x ∈ xs, x ∈ ws) : N.TmW ws t := ⟨⟨h.ok, h.si, h.cn, h.ht⟩, fun y hy => hx y (rtm_nms h y hy)⟩
theorem rP_aP {hd : Str → Option Nat} {ws js : List Str} : ∀ {p : Pt} {xs hs : List Str}, N.rP hd p xs hs → (∀ x ∈ xs, x ∈ ws) → (∀ j ∈ hs, j ∈ js) → (∀ x ∈ N.wP p, x ∈ ws) → (∀ j ∈ N.jP p, j ∈ js) → N.aP ws js p
  | .give j t, xs, hs, h, a, b, _, _ => ⟨b j h.1, rtm_tw h.2 a⟩
  | .ask f ts j, xs, hs, h, a, b, _, _ => ⟨b j h.1, isV_of h.2.1, h.2.2.2.1, fun t ht => rtm_tw (h.2.2.2.2 t ht) a⟩
  | .tell x t p, xs, hs, h, a, b, c, d => ⟨⟨h.1, c x List.mem_cons_self⟩, rtm_tw h.2.1 a, rP_aP h.2.2 (fun y hy => by
      rcases List.mem_append.mp hy with z | z
      · exact a y z
      · rw [List.mem_singleton.mp z]; exact c x List.mem_cons_self) b (fun y hy => c y (List.mem_cons_of_mem _ hy)) d⟩
  | .lett x t p, xs, hs, h, a, b, c, d => ⟨⟨h.1, c x List.mem_cons_self⟩, rtm_tw h.2.1 a, rP_aP h.2.2 (fun y hy => by
      rcases List.mem_append.mp hy with z | z
      · exact a y z
      · rw [List.mem_singleton.mp z]; exact c x List.mem_cons_self) b (fun y hy => c y (List.mem_cons_of_mem _ hy)) d⟩
  | .iff t p q, xs, hs, h, a, b, c, d => ⟨rtm_tw h.1 a, rP_aP h.2.1 a b (fun y hy => c y (List.mem_append_left _ hy)) (fun y hy => d y (List.mem_append_left _ hy)), rP_aP h.2.2 a b (fun y hy => c y (List.mem_append_right _ hy)) (fun y hy => d y (List.mem_append_right _ hy))⟩
  | .post j x p q, xs, hs, h, a, b, c, d => ⟨⟨h.1, d j List.mem_cons_self⟩, ⟨h.2.1, c x List.mem_cons_self⟩, rP_aP h.2.2.1 (fun y hy => by
      rcases List.mem_append.mp hy with z | z
      · exact a y z
      · rw [List.mem_singleton.mp z]; exact c x List.mem_cons_self) b (fun y hy => c y (List.mem_cons_of_mem _ (List.mem_append_left _ hy))) (fun y hy => d y (List.mem_cons_of_mem _ (List.mem_append_left _ hy))),
    rP_aP h.2.2.2 a (fun y hy => by
      rcases List.mem_append.mp hy with z | z
      · exact b y z
      · rw [List.mem_singleton.mp z]; exact d j List.mem_cons_self) (fun y hy => c y (List.mem_cons_of_mem _ (List.mem_append_right _ hy))) (fun y hy => d y (List.mem_cons_of_mem _ (List.mem_append_right _ hy)))⟩
end KB

namespace KB
open PySem L2

theorem flat_hd {t : Tm} (h : simple t = true) : flatHd (hdT t) = true := by
  cases t with
  | mk h0 n k => exact (N.simple_mk h).1
theorem sim_kid {t u : Tm} (h : simple t = true) (hu : u ∈ kidsT t) : simple u = true := by
  cases t with
  | mk h0 n k =>
    obtain ⟨i, rfl⟩ := List.mem_ofFn.mp hu
    exact (N.simple_mk h).2 i
theorem mkL_eta : ∀ t : Tm, mkL (hdT t) (kidsT t) = t
  | .mk h n k => by
    have key : ∀ (ts : List Tm) (m : Nat) (e : ts.length = m) (f : _root_.Fin m → Tm), (∀ i : _root_.Fin m, ts.get ⟨i.val, by rw [e]; exact i.isLt⟩ = f i) → mkL h ts = Tm.mk h m f := by
      intro ts m e f hh
      subst e
      show Tm.mk h ts.length (fun i => ts.get i) = Tm.mk h ts.length f
      congr 1
      funext i
      exact hh i
    refine key (List.ofFn k) n List.length_ofFn k fun i => ?_
    show (List.ofFn k).get _ = k i
    rw [List.get_eq_getElem, List.getElem_ofFn]
theorem two_kids {t a b : Tm} {h : Hd} (e1 : hdT t = h) (e2 : kidsT t = [a, b]) : mkL h [a, b] = t := by
  rw [← e1, ← e2]
  exact mkL_eta t
/-! ### a simple term turned: nothing changes -/
def SiS (tk : List Str) (t : Tm) : Prop := ∀ {m ls s m'}, CpS tk t m ls s m' → ls = [] ∧ s = t ∧ m' = m
theorem siL {tk : List Str} : ∀ {ts : List Tm}, (∀ u ∈ ts, SiS tk u) → ∀ {m ls ss m'}, CpL tk ts m ls ss m' → ls = [] ∧ ss = ts ∧ m' = m
  | [], _, m, ls, ss, m', h => by
    cases h
    exact ⟨rfl, rfl, rfl⟩
  | t :: ts, ih, m, ls, ss, m', h => by
    cases h with
    | cons h1 _ h2 =>
      obtain ⟨rfl, rfl, rfl⟩ := ih t List.mem_cons_self h1
      obtain ⟨rfl, rfl, rfl⟩ := siL (fun u hu => ih u (List.mem_cons_of_mem _ hu)) h2
      exact ⟨rfl, rfl, rfl⟩
theorem si_ {tk : List Str} (n : Nat) : ∀ t, cnt t ≤ n → arA t → simple t = true → SiS tk t := by
  induction n with
  | zero =>
    intro t h
    have := cnt_pos t
    omega
  | succ n ih =>
    intro t hn ha hs m ls s m' h
    have kd : ∀ u ∈ kidsT t, SiS tk u := fun u hu => ih u (by have := cnt_kid hu; omega) (ha.kid hu) (sim_kid hs hu)
    have hf := flat_hd hs
    cases h with
    | leaf hl => exact ⟨rfl, rfl, rfl⟩
    | @op _ _ _ sa sb _ lo hh hL =>
      obtain ⟨e1, e2, e3⟩ := siL kd hL
      exact ⟨e1, two_kids hh e2.symm, e3⟩
    | lett hh _ _ _ _ => rw [hh] at hf; cases hf
    | word hw _ _ => cases hh : hdT t <;> rw [hh] at hw hf <;> first | exact absurd hw Bool.false_ne_true | exact absurd hf Bool.false_ne_true
/-! ### the law's new words: numbers as texts -/
def sW (c : Nat) : Str := Str.ofString (toString ((c : Nat) : Int))
theorem sW_inj {a b : Nat} (h : sW a = sW b) : a = b := TL.numL_inj (by rw [← TL.tl_num, ← TL.tl_num]; exact congrArg TL.tl h)
theorem sW_notW (c : Nat) : isW (sW c) = false := by
  cases e : isW (sW c) with
  | false => rfl
  | true =>
    exfalso
    unfold isW at e
    rw [Bool.and_eq_true] at e
    have h2 : (TL.tl (sW c)).all small = true := e.2
    have h3 : TL.tl (sW c) = TL.numL c := TL.tl_num c
    rw [h3] at h2
    cases hl : TL.numL c with
    | nil => exact TL.numL_ne c hl
    | cons a r =>
      rw [hl] at h2
      have ha : small a = true := List.all_eq_true.mp h2 a List.mem_cons_self
      have hm : a ∈ TL.numL c := by rw [hl]; exact List.mem_cons_self
      have hs : 97 ≤ a := by
        unfold small at ha
        simp at ha
        omega
      exact TL.numL_free (.inr (by omega)) hm
/-! ### terms and parts renamed by one renaming -/
def calLd (F : Str → Str) : Ld → Ld
  | .lett x s => .lett (F x) (N.calT F s)
  | .tell x s => .tell (F x) (N.calT F s)
  | .post j x u => .post (F j) (F x) (N.calP F F u)
theorem cal_put (F : Str → Str) (q : Pt) : ∀ ls : List Ld, N.calP F F (putAh ls q) = putAh (ls.map (calLd F)) (N.calP F F q)
  | [] => rfl
  | .lett x s :: r => congrArg (Pt.lett (F x) (N.calT F s)) (cal_put F q r)
  | .tell x s :: r => congrArg (Pt.tell (F x) (N.calT F s)) (cal_put F q r)
  | .post j x u :: r => by
    show Pt.post (F j) (F x) (N.calP F F (putAh r q)) (N.calP F F u) = Pt.post (F j) (F x) (putAh (r.map (calLd F)) (N.calP F F q)) (N.calP F F u)
    rw [cal_put F q r]
theorem calT_self {F : Str → Str} : ∀ {t : Tm}, (∀ y ∈ N.nmsT t, F y = y) → N.calT F t = t := by
  intro t
  induction t with
  | mk h n k ih =>
    intro hy
    have e1 : N.calH F h = h := by
      cases h with
      | nam x => exact congrArg Hd.nam (hy x (List.mem_append_left _ List.mem_cons_self))
      | lett x => exact congrArg Hd.lett (hy x (List.mem_append_left _ List.mem_cons_self))
      | _ => rfl
    have e2 : (List.ofFn fun i => N.calT F (k i)) = List.ofFn k := by
      congr 1
      funext i
      exact ih i fun y hm => hy y (List.mem_append_right _ (List.mem_flatten.mpr ⟨_, List.mem_ofFn.mpr ⟨i, rfl⟩, hm⟩))
    show mkL (N.calH F h) (List.ofFn fun i => N.calT F (k i)) = _
    rw [e1, e2]
    exact mkL_eta (.mk h n k)
theorem calT_mkL (F : Str → Str) (h : Hd) (ts : List Tm) : N.calT F (mkL h ts) = mkL (N.calH F h) (ts.map (N.calT F)) := by
  rw [N.calT_eq]
  show mkL (N.calH F h) ((kidsT (mkL h ts)).map (N.calT F)) = _
  rw [N.kids_mkL]
/-! ### the law's own turning, told by the term -/
mutual
inductive LwS : Tm → Nat → List Ld → Tm → Nat → Prop
  | simple {t c} : simple t = true → LwS t c [] t c
  | op {t c la sa c1 lb sb c2 a b} : simple t = false → hdT t = .plus ∨ hdT t = .less → kidsT t = [a, b] → LwS a c la sa c1 → LwS b c1 lb sb c2 → LwS t c (la ++ lb) (mkL (hdT t) [sa, sb]) c2
  | lett {t y a b c la c1 lb s c2} : hdT t = .lett y → kidsT t = [a, b] → LwU a y c la c1 → LwS b c1 lb s c2 → LwS t c (la ++ lb) s c2
  | word {t c ls c2} : wordS (hdT t) = true → LwU t (sW c) (c + 1) ls c2 → LwS t c ls (mkL (.nam (sW c)) []) c2
inductive LwU : Tm → Str → Nat → List Ld → Nat → Prop
  | lett {t x y a b c la c1 lb c2} : hdT t = .lett y → kidsT t = [a, b] → LwU a y c la c1 → LwU b x c1 lb c2 → LwU t x c (la ++ lb) c2
  | iff {t x a b d c la s c1 lb qb c2 lc qc c3} : hdT t = .iff → kidsT t = [a, b, d] → LwS a c la s c1 → LwD b (sW c1) (c1 + 1) lb qb c2 → LwD d (sW c1) c2 lc qc c3 →
      LwU t x c (la ++ [.post (sW c1) x (.iff s (putAh lb qb) (putAh lc qc))]) c3
  | simple {t x c} : simple t = true → LwU t x c [.lett x t] c
  | ask {t f x c la ss c1} : hdT t = .ask f → LwL (kidsT t) c la ss c1 → LwU t x c (la ++ [.post (sW c1) x (.ask f ss (sW c1))]) (c1 + 1)
  | tell {t x a c la s c1} : hdT t = .tell → kidsT t = [a] → LwS a c la s c1 → LwU t x c (la ++ [.tell x s]) c1
  | op {t x c la ss c1} : simple t = false → hdT t = .plus ∨ hdT t = .less → LwL (kidsT t) c la ss c1 → LwU t x c (la ++ [.lett x (mkL (hdT t) ss)]) c1
inductive LwD : Tm → Str → Nat → List Ld → Pt → Nat → Prop
  | simple {t j c} : simple t = true → LwD t j c [] (.give j t) c
  | lett {t j y a b c la c1 lb q c2} : hdT t = .lett y → kidsT t = [a, b] → LwU a y c la c1 → LwD b j c1 lb q c2 → LwD t j c (la ++ lb) q c2
  | iff {t j a b d c la s c1 lb qb c2 lc qc c3} : hdT t = .iff → kidsT t = [a, b, d] → LwS a c la s c1 → LwD b j c1 lb qb c2 → LwD d j c2 lc qc c3 → LwD t j c la (.iff s (putAh lb qb) (putAh lc qc)) c3
  | ask {t f j c la ss c1} : hdT t = .ask f → LwL (kidsT t) c la ss c1 → LwD t j c la (.ask f ss j) c1
  | tell {t j a c la s c1} : hdT t = .tell → kidsT t = [a] → LwS a c la s c1 → LwD t j c (la ++ [.tell (sW c1) s]) (.give j (mkL (.nam (sW c1)) [])) (c1 + 1)
  | op {t j c la ss c1} : simple t = false → hdT t = .plus ∨ hdT t = .less → LwL (kidsT t) c la ss c1 → LwD t j c la (.give j (mkL (hdT t) ss)) c1
inductive LwL : List Tm → Nat → List Ld → List Tm → Nat → Prop
  | nil {c} : LwL [] c [] [] c
  | cons {t ts c la s c1 lb ss c2} : LwS t c la s c1 → LwL ts c1 lb ss c2 → LwL (t :: ts) c (la ++ lb) (s :: ss) c2
end
/-! ### both turnings, one renaming of the other -/
structure Jn (tk : List Str) (D R : Nat → Prop) (σ : List (Str × Str)) : Prop where
  d : ∀ y ∈ σ.map (·.1), y ∉ tk ∧ ∃ k, D k ∧ y = wordOf k
  r : ∀ y ∈ σ.map (·.2), ∃ i, R i ∧ y = sW i
  n1 : (σ.map (·.1)).Nodup
  n2 : (σ.map (·.2)).Nodup
def Cp (tk : List Str) (F : Str → Str) (σ : List (Str × Str)) : Prop := (∀ y ∈ tk, F y = y) ∧ ∀ e ∈ σ, F e.1 = e.2
theorem Cp.l {tk : List Str} {F : Str → Str} {a b : List (Str × Str)} (h : Cp tk F (a ++ b)) : Cp tk F a := ⟨h.1, fun e he => h.2 e (List.mem_append_left _ he)⟩
theorem Cp.r {tk : List Str} {F : Str → Str} {a b : List (Str × Str)} (h : Cp tk F (a ++ b)) : Cp tk F b := ⟨h.1, fun e he => h.2 e (List.mem_append_right _ he)⟩
theorem Jn.nil {tk : List Str} {D R : Nat → Prop} : Jn tk D R [] := ⟨(fun _ h => nomatch h), (fun _ h => nomatch h), List.nodup_nil, List.nodup_nil⟩
theorem Jn.mono {tk : List Str} {D R D' R' : Nat → Prop} {σ : List (Str × Str)} (h : Jn tk D R σ) (hd : ∀ k, D k → D' k) (hr : ∀ i, R i → R' i) : Jn tk D' R' σ :=
  ⟨fun y hy => let ⟨a, k, b, c⟩ := h.d y hy; ⟨a, k, hd k b, c⟩, fun y hy => let ⟨i, b, c⟩ := h.r y hy; ⟨i, hr i b, c⟩, h.n1, h.n2⟩
theorem Jn.app {tk : List Str} {D1 R1 D2 R2 : Nat → Prop} {a b : List (Str × Str)} (h1 : Jn tk D1 R1 a) (h2 : Jn tk D2 R2 b) (hd : ∀ k, D1 k → ∀ l, D2 l → wordOf k ≠ wordOf l) (hr : ∀ i, R1 i → ∀ l, R2 l → i ≠ l) : Jn tk (fun k => D1 k ∨ D2 k) (fun i => R1 i ∨ R2 i) (a ++ b) := by
  refine ⟨fun y hy => ?_, fun y hy => ?_, ?_, ?_⟩
  · rw [List.map_append] at hy
    rcases List.mem_append.mp hy with z | z
    · obtain ⟨p, k, q, e⟩ := h1.d y z
      exact ⟨p, k, .inl q, e⟩
    · obtain ⟨p, k, q, e⟩ := h2.d y z
      exact ⟨p, k, .inr q, e⟩
  · rw [List.map_append] at hy
    rcases List.mem_append.mp hy with z | z
    · obtain ⟨k, q, e⟩ := h1.r y z
      exact ⟨k, .inl q, e⟩
    · obtain ⟨k, q, e⟩ := h2.r y z
      exact ⟨k, .inr q, e⟩
  · rw [List.map_append]
    refine List.nodup_append.mpr ⟨h1.n1, h2.n1, fun x hx y hy e => ?_⟩
    obtain ⟨_, k, q, e1⟩ := h1.d x hx
    obtain ⟨_, l, q2, e2⟩ := h2.d y hy
    exact hd k q l q2 (e1.symm.trans (e.trans e2))
  · rw [List.map_append]
    refine List.nodup_append.mpr ⟨h1.n2, h2.n2, fun x hx y hy e => ?_⟩
    obtain ⟨k, q, e1⟩ := h1.r x hx
    obtain ⟨l, q2, e2⟩ := h2.r y hy
    exact hr k q l q2 (sW_inj (e1.symm.trans (e.trans e2)))
end KB

namespace KB
open PySem L2

/-! ### the program's turning and the law's: one a renaming of the other -/
def Iv (a b k : Nat) : Prop := a ≤ k ∧ k < b
theorem iv_sep {a b c d : Nat} (h : b ≤ c) : ∀ k, Iv a b k → ∀ l, Iv c d l → k ≠ l := fun k hk l hl e => by
  have h1 := hk.2
  have h2 := hl.1
  omega
theorem iv_sepW {a b c d : Nat} (h : b ≤ c) : ∀ k, Iv a b k → ∀ l, Iv c d l → wordOf k ≠ wordOf l := fun k hk l hl e => iv_sep h k hk l hl (wordOf_inj e)
theorem iv_two {a b c k : Nat} (h1 : a ≤ b) (h2 : b ≤ c) (h : Iv a b k ∨ Iv b c k) : Iv a c k := by
  rcases h with ⟨x, y⟩ | ⟨x, y⟩
  · exact ⟨x, by omega⟩
  · exact ⟨by omega, y⟩
theorem Jn.two {tk : List Str} {m m1 m2 c c1 c2 : Nat} {a b : List (Str × Str)} (h1 : Jn tk (Iv m m1) (Iv c c1) a) (h2 : Jn tk (Iv m1 m2) (Iv c1 c2) b) (hm : m ≤ m1) (hm2 : m1 ≤ m2) (hc : c ≤ c1) (hc2 : c1 ≤ c2) : Jn tk (Iv m m2) (Iv c c2) (a ++ b) :=
  (h1.app h2 (iv_sepW (Nat.le_refl _)) (iv_sep (Nat.le_refl _))).mono (fun k => iv_two hm hm2) fun k => iv_two hc hc2
/-- a new word, the law's taken behind -/
theorem Jn.aft {tk : List Str} {m m1 m2 c c1 : Nat} {w : Str} {a : List (Str × Str)} (hw : NwR tk m w m1) (h : Jn tk (Iv m1 m2) (Iv c c1) a) (hm : m1 ≤ m2) (hc : c ≤ c1) : Jn tk (Iv m m2) (Iv c (c1 + 1)) ((w, sW c1) :: a) := by
  obtain ⟨k, h1, h2, h3, h4, h5, h6⟩ := hw
  have one : Jn tk (Iv m m1) (Iv c1 (c1 + 1)) [(w, sW c1)] := ⟨fun y hy => by rw [List.mem_singleton.mp hy]; exact ⟨h4, k, ⟨h1, by omega⟩, h3⟩, fun y hy => by rw [List.mem_singleton.mp hy]; exact ⟨c1, ⟨Nat.le_refl _, by omega⟩, rfl⟩, List.nodup_cons.mpr ⟨(fun z => nomatch z), List.nodup_nil⟩, List.nodup_cons.mpr ⟨(fun z => nomatch z), List.nodup_nil⟩⟩
  refine (one.app h (iv_sepW (Nat.le_refl _)) fun i hi l hl e => ?_).mono (fun k => iv_two (by omega) hm) fun k hk => ?_
  · have := hi.1
    have := hl.2
    omega
  · rcases hk with ⟨x, y⟩ | ⟨x, y⟩
    · exact ⟨by omega, y⟩
    · exact ⟨x, by omega⟩
/-- a new word, the law's taken first -/
theorem Jn.fst {tk : List Str} {m m1 m2 c c1 : Nat} {w : Str} {a : List (Str × Str)} (hw : NwR tk m w m1) (h : Jn tk (Iv m1 m2) (Iv (c + 1) c1) a) (hm : m1 ≤ m2) (hc : c + 1 ≤ c1) : Jn tk (Iv m m2) (Iv c c1) ((w, sW c) :: a) := by
  obtain ⟨k, h1, h2, h3, h4, h5, h6⟩ := hw
  have one : Jn tk (Iv m m1) (Iv c (c + 1)) [(w, sW c)] := ⟨fun y hy => by rw [List.mem_singleton.mp hy]; exact ⟨h4, k, ⟨h1, by omega⟩, h3⟩, fun y hy => by rw [List.mem_singleton.mp hy]; exact ⟨c, ⟨Nat.le_refl _, by omega⟩, rfl⟩, List.nodup_cons.mpr ⟨(fun z => nomatch z), List.nodup_nil⟩, List.nodup_cons.mpr ⟨(fun z => nomatch z), List.nodup_nil⟩⟩
  exact (one.app h (iv_sepW (Nat.le_refl _)) (iv_sep (Nat.le_refl _))).mono (fun k => iv_two (by omega) hm) fun k => iv_two (by omega) hc
theorem Cp.tl {tk : List Str} {F : Str → Str} {e : Str × Str} {b : List (Str × Str)} (h : Cp tk F (e :: b)) : Cp tk F b := ⟨h.1, fun x hx => h.2 x (List.mem_cons_of_mem _ hx)⟩
theorem Cp.hd {tk : List Str} {F : Str → Str} {e : Str × Str} {b : List (Str × Str)} (h : Cp tk F (e :: b)) : F e.1 = e.2 := h.2 e List.mem_cons_self
def QS (tk : List Str) (t : Tm) : Prop := ∀ {m ls s m' c ls2 s2 c'}, CpS tk t m ls s m' → LwS t c ls2 s2 c' → ∃ σ, Jn tk (Iv m m') (Iv c c') σ ∧ m ≤ m' ∧ c ≤ c' ∧ ∀ F, Cp tk F σ → s2 = N.calT F s ∧ ls2 = ls.map (calLd F)
def QP (tk : List Str) (t : Tm) : Prop := ∀ {x x2 m ls m' c ls2 c'}, CpP tk t x m ls m' → LwU t x2 c ls2 c' → ∃ σ, Jn tk (Iv m m') (Iv c c') σ ∧ m ≤ m' ∧ c ≤ c' ∧ ∀ F, Cp tk F σ → F x = x2 → ls2 = ls.map (calLd F)
def QD (tk : List Str) (t : Tm) : Prop := ∀ {j j2 m ls q m' c ls2 q2 c'}, CpD tk t j m ls q m' → LwD t j2 c ls2 q2 c' → ∃ σ, Jn tk (Iv m m') (Iv c c') σ ∧ m ≤ m' ∧ c ≤ c' ∧ ∀ F, Cp tk F σ → F j = j2 → ls2 = ls.map (calLd F) ∧ q2 = N.calP F F q
theorem qL {tk : List Str} : ∀ {ts : List Tm}, (∀ t ∈ ts, QS tk t) → ∀ {m ls ss m' c ls2 ss2 c'}, CpL tk ts m ls ss m' → LwL ts c ls2 ss2 c' → ∃ σ, Jn tk (Iv m m') (Iv c c') σ ∧ m ≤ m' ∧ c ≤ c' ∧ ∀ F, Cp tk F σ → ss2 = ss.map (N.calT F) ∧ ls2 = ls.map (calLd F)
  | [], _, m, ls, ss, m', c, ls2, ss2, c', h, g => by
    cases h
    cases g
    exact ⟨[], .nil, Nat.le_refl _, Nat.le_refl _, fun _ _ => ⟨rfl, rfl⟩⟩
  | t :: ts, ih, m, ls, ss, m', c, ls2, ss2, c', h, g => by
    cases h with
    | cons h1 _ h2 =>
      cases g with
      | cons g1 g2 =>
        obtain ⟨σ1, J1, a1, b1, F1⟩ := ih t List.mem_cons_self h1 g1
        obtain ⟨σ2, J2, a2, b2, F2⟩ := qL (fun u hu => ih u (List.mem_cons_of_mem _ hu)) h2 g2
        refine ⟨σ1 ++ σ2, J1.two J2 a1 a2 b1 b2, by omega, by omega, fun F hF => ?_⟩
        obtain ⟨e1, e2⟩ := F1 F hF.l
        obtain ⟨e3, e4⟩ := F2 F hF.r
        rw [e1, e2, e3, e4, List.map_append]
        exact ⟨rfl, rfl⟩
theorem cal_nam (F : Str → Str) (w : Str) : N.calT F (mkL (.nam w) []) = mkL (.nam (F w)) [] := by
  rw [calT_mkL]
  rfl
theorem cal_op {F : Str → Str} {h : Hd} (e : h = .plus ∨ h = .less) (ss : List Tm) : N.calT F (mkL h ss) = mkL h (ss.map (N.calT F)) := by
  rw [calT_mkL]
  rcases e with e | e <;> rw [e] <;> rfl
theorem mkop_is {h : Hd} {l : Bool} (e : h = if l = true then Hd.less else Hd.plus) (a b : Tm) : mkOp l a b = mkL h [a, b] := by
  cases l <;> (subst e; rfl)
theorem op_of {t : Tm} (h1 : lazyH (hdT t) = false) (h2 : wordH (hdT t) = false) (h3 : hdT t ≠ .tell) (ar : arA t) (h4 : simple t = false) : hdT t = .plus ∨ hdT t = .less := by
  cases hh : hdT t with
  | plus => exact .inl rfl
  | less => exact .inr rfl
  | tell => exact absurd hh h3
  | ask _ => rw [hh] at h2; cases h2
  | iff => rw [hh] at h1; cases h1
  | lett _ => rw [hh] at h1; cases h1
  | num z =>
    obtain ⟨h0, n, k⟩ := t
    have hh : h0 = .num z := hh
    subst hh
    have e0 : n = 0 := ar.1
    subst e0
    cases h4
  | nam z =>
    obtain ⟨h0, n, k⟩ := t
    have hh : h0 = .nam z := hh
    subst hh
    have e0 : n = 0 := ar.1
    subst e0
    cases h4
theorem q_all {tk : List Str} (n : Nat) : ∀ t, cnt t ≤ n → arA t → (∀ y ∈ N.nmsT t, y ∈ tk) → QS tk t ∧ QP tk t ∧ QD tk t := by
  induction n with
  | zero =>
    intro t h
    have := cnt_pos t
    omega
  | succ n ih =>
    intro t hn ar hy
    have kd : ∀ u ∈ kidsT t, QS tk u ∧ QP tk u ∧ QD tk u := fun u hu => ih u (by have := cnt_kid hu; omega) (ar.kid hu) fun y h => hy y (N.nms_kid hu y h)
    have hlet : ∀ x, hdT t = .lett x → x ∈ tk := fun x h => hy x (by rw [N.nms_mk, h]; exact List.mem_append_left _ List.mem_cons_self)
    have self : simple t = true → ∀ F : Str → Str, (∀ y ∈ tk, F y = y) → N.calT F t = t := fun _ F h => calT_self fun y hy' => h y (hy y hy')
    have flt : simple t = true → flatHd (hdT t) = true := flat_hd
    -- under
    have P : QP tk t := by
      intro x x2 m ls m' c ls2 c' h g
      by_cases hs : simple t = true
      · have hf := flt hs
        have e1 : ls = [.lett x t] ∧ m' = m := by
          cases h with
          | plain _ h1 =>
            obtain ⟨rfl, rfl, rfl⟩ := si_ _ t (Nat.le_refl _) ar hs h1
            exact ⟨rfl, rfl⟩
          | lett hh _ _ _ _ => rw [hh] at hf; cases hf
          | ask hh _ _ => rw [hh] at hf; cases hf
          | iff hh _ _ _ _ _ _ _ => rw [hh] at hf; cases hf
          | tell hh _ _ => rw [hh] at hf; cases hf
        have e2 : ls2 = [.lett x2 t] ∧ c' = c := by
          cases g with
          | simple _ => exact ⟨rfl, rfl⟩
          | lett hh _ _ _ => rw [hh] at hf; cases hf
          | ask hh _ => rw [hh] at hf; cases hf
          | iff hh _ _ _ _ => rw [hh] at hf; cases hf
          | tell hh _ _ => rw [hh] at hf; cases hf
          | op h0 _ _ => rw [hs] at h0; cases h0
        obtain ⟨rfl, rfl⟩ := e1
        obtain ⟨rfl, rfl⟩ := e2
        refine ⟨[], .nil, Nat.le_refl _, Nat.le_refl _, fun F hF hx => ?_⟩
        show [Ld.lett x2 t] = [Ld.lett (F x) (N.calT F t)]
        rw [hx, self hs F hF.1]
      have hs' : simple t = false := by simpa using hs
      cases h with
      | @lett _ _ y a b _ la m1 lb _ hh hk h1 _ h2 =>
        have ka : a ∈ kidsT t := by rw [hk]; simp
        have kb : b ∈ kidsT t := by rw [hk]; simp
        cases g with
        | lett hh2 hk2 g1 g2 =>
          rw [hh] at hh2
          cases hh2
          rw [hk] at hk2
          cases hk2
          obtain ⟨σ1, J1, a1, b1, F1⟩ := (kd a ka).2.1 h1 g1
          obtain ⟨σ2, J2, a2, b2, F2⟩ := (kd b kb).2.1 h2 g2
          refine ⟨σ1 ++ σ2, J1.two J2 a1 a2 b1 b2, by omega, by omega, fun F hF hx => ?_⟩
          rw [F1 F hF.l (hF.1 _ (hlet _ hh)), F2 F hF.r hx, List.map_append]
        | simple h0 => exact absurd h0 hs
        | ask hh2 _ => rw [hh] at hh2; cases hh2
        | iff hh2 _ _ _ _ => rw [hh] at hh2; cases hh2
        | tell hh2 _ _ => rw [hh] at hh2; cases hh2
        | op _ hh2 _ => rw [hh] at hh2; rcases hh2 with z | z <;> cases z
      | @ask _ f _ w _ m1 la ss _ hh hw hL =>
        cases g with
        | ask hh2 gL =>
          rw [hh] at hh2
          cases hh2
          obtain ⟨σ1, J1, a1, b1, F1⟩ := qL (fun u hu => (kd u hu).1) hL gL
          have := hw.lt
          refine ⟨_, J1.aft hw a1 b1, by omega, by omega, fun F hF hx => ?_⟩
          obtain ⟨e1, e2⟩ := F1 F hF.tl
          have e3 := hF.hd
          rw [List.map_append, e1, e2]
          show _ ++ [Ld.post (sW _) x2 (.ask f (ss.map (N.calT F)) (sW _))] = _ ++ [Ld.post (F w) (F x) (.ask f (ss.map (N.calT F)) (F w))]
          rw [show F w = _ from e3, hx]
        | simple h0 => exact absurd h0 hs
        | lett hh2 _ _ _ => rw [hh] at hh2; cases hh2
        | iff hh2 _ _ _ _ => rw [hh] at hh2; cases hh2
        | tell hh2 _ _ => rw [hh] at hh2; cases hh2
        | op _ hh2 _ => rw [hh] at hh2; rcases hh2 with z | z <;> cases z
      | @iff _ _ w a b d _ m1 la s m2 lb qb m3 lc qc _ hh hk hw h1 h2 _ h3 _ =>
        have ka : a ∈ kidsT t := by rw [hk]; simp
        have kb : b ∈ kidsT t := by rw [hk]; simp
        have kc : d ∈ kidsT t := by rw [hk]; simp
        cases g with
        | iff hh2 hk2 g1 g2 g3 =>
          rw [hk] at hk2
          cases hk2
          obtain ⟨σ1, J1, a1, b1, F1⟩ := (kd a ka).1 h1 g1
          obtain ⟨σ2, J2, a2, b2, F2⟩ := (kd b kb).2.2 h2 g2
          obtain ⟨σ3, J3, a3, b3, F3⟩ := (kd d kc).2.2 h3 g3
          have hlt := hw.lt
          have J23 := J2.two J3 a2 a3 b2 b3
          have JA := J1.aft hw a1 b1
          refine ⟨_, JA.two J23 (by omega) (by omega) (by omega) (by omega), by omega, by omega, fun F hF hx => ?_⟩
          obtain ⟨e1, e2⟩ := F1 F hF.l.tl
          have e3 : F w = sW _ := hF.l.hd
          obtain ⟨e4, e5⟩ := F2 F hF.r.l e3
          obtain ⟨e6, e7⟩ := F3 F hF.r.r e3
          rw [List.map_append, e1, e2, e4, e5, e6, e7, ← cal_put, ← cal_put, ← hx, ← e3]
          rfl
        | simple h0 => exact absurd h0 hs
        | ask hh2 _ => rw [hh] at hh2; cases hh2
        | lett hh2 _ _ _ => rw [hh] at hh2; cases hh2
        | tell hh2 _ _ => rw [hh] at hh2; cases hh2
        | op _ hh2 _ => rw [hh] at hh2; rcases hh2 with z | z <;> cases z
      | @tell _ _ a _ la s _ hh hk h1 =>
        have ka : a ∈ kidsT t := by rw [hk]; simp
        cases g with
        | tell hh2 hk2 g1 =>
          rw [hk] at hk2
          cases hk2
          obtain ⟨σ1, J1, a1, b1, F1⟩ := (kd a ka).1 h1 g1
          refine ⟨σ1, J1, a1, b1, fun F hF hx => ?_⟩
          obtain ⟨e1, e2⟩ := F1 F hF
          rw [List.map_append, e1, e2, ← hx]
          rfl
        | simple h0 => exact absurd h0 hs
        | ask hh2 _ => rw [hh] at hh2; cases hh2
        | lett hh2 _ _ _ => rw [hh] at hh2; cases hh2
        | iff hh2 _ _ _ _ => rw [hh] at hh2; cases hh2
        | op _ hh2 _ => rw [hh] at hh2; rcases hh2 with z | z <;> cases z
      | @plain _ _ _ la s _ hp h1 =>
        cases g with
        | op _ ho gL =>
          cases h1 with
          | @op _ _ _ sa sb _ l hh hL =>
            obtain ⟨σ1, J1, a1, b1, F1⟩ := qL (fun u hu => (kd u hu).1) hL gL
            refine ⟨σ1, J1, a1, b1, fun F hF hx => ?_⟩
            obtain ⟨e1, e2⟩ := F1 F hF
            rw [List.map_append, e1, e2, ← hx, mkop_is hh]
            show _ = _ ++ [Ld.lett (F x) (N.calT F (mkL (hdT t) [sa, sb]))]
            rw [cal_op ho]
          | leaf h0 => rcases h0 with ⟨z, h0⟩ | ⟨z, h0⟩ <;> rw [h0] at ho <;> rcases ho with o | o <;> cases o
          | lett h0 _ _ _ _ => rw [h0] at ho; rcases ho with o | o <;> cases o
          | word h0 _ _ => rcases ho with o | o <;> rw [o] at h0 <;> cases h0
        | simple h0 => exact absurd h0 hs
        | ask hh2 _ => rw [hh2] at hp; cases hp
        | lett hh2 _ _ _ => rw [hh2] at hp; cases hp
        | iff hh2 _ _ _ _ => rw [hh2] at hp; cases hp
        | tell hh2 _ _ => rw [hh2] at hp; cases hp
    -- made simple
    have S : QS tk t := by
      intro m ls s m' c ls2 s2 c' h g
      by_cases hs : simple t = true
      · have hf := flt hs
        obtain ⟨rfl, rfl, rfl⟩ := si_ _ t (Nat.le_refl _) ar hs h
        have e2 : ls2 = [] ∧ s2 = s ∧ c' = c := by
          cases g with
          | simple _ => exact ⟨rfl, rfl, rfl⟩
          | op h0 _ _ _ _ => rw [hs] at h0; cases h0
          | lett hh _ _ _ => rw [hh] at hf; cases hf
          | word hw _ => cases hh : hdT s <;> rw [hh] at hw hf <;> first | exact absurd hw Bool.false_ne_true | exact absurd hf Bool.false_ne_true
        obtain ⟨rfl, rfl, rfl⟩ := e2
        exact ⟨[], .nil, Nat.le_refl _, Nat.le_refl _, fun F hF => ⟨(self hs F hF.1).symm, rfl⟩⟩
      have hs' : simple t = false := by simpa using hs
      cases h with
      | leaf h0 =>
        exfalso
        rcases h0 with ⟨z, h0⟩ | ⟨z, h0⟩
        · rcases op_of (by rw [h0]; rfl) (by rw [h0]; rfl) (by rw [h0]; exact fun z => nomatch z) ar hs' with o | o <;> rw [h0] at o <;> cases o
        · rcases op_of (by rw [h0]; rfl) (by rw [h0]; rfl) (by rw [h0]; exact fun z => nomatch z) ar hs' with o | o <;> rw [h0] at o <;> cases o
      | @op _ _ _ sa sb _ l hh hL =>
        have ho : hdT t = .plus ∨ hdT t = .less := by
          cases l with
          | false => exact .inl hh
          | true => exact .inr hh
        cases g with
        | @op _ _ la2 sa2 c1 lb2 sb2 _ a b _ _ hk g1 g2 =>
          have gL : LwL (kidsT t) c (la2 ++ lb2) [sa2, sb2] c' := by
            rw [hk]
            have := LwL.cons g1 (LwL.cons g2 LwL.nil)
            rwa [List.append_nil] at this
          obtain ⟨σ1, J1, a1, b1, F1⟩ := qL (fun u hu => (kd u hu).1) hL gL
          refine ⟨σ1, J1, a1, b1, fun F hF => ?_⟩
          obtain ⟨e1, e2⟩ := F1 F hF
          rw [mkop_is hh, cal_op ho, e1]
          exact ⟨rfl, e2⟩
        | simple h0 => exact absurd h0 hs
        | lett h0 _ _ _ => rw [h0] at ho; rcases ho with o | o <;> cases o
        | word h0 _ => rcases ho with o | o <;> rw [o] at h0 <;> cases h0
      | @lett _ y a b _ la m1 lb _ _ hh hk h1 _ h2 =>
        have ka : a ∈ kidsT t := by rw [hk]; simp
        have kb : b ∈ kidsT t := by rw [hk]; simp
        cases g with
        | lett hh2 hk2 g1 g2 =>
          rw [hh] at hh2
          cases hh2
          rw [hk] at hk2
          cases hk2
          obtain ⟨σ1, J1, a1, b1, F1⟩ := (kd a ka).2.1 h1 g1
          obtain ⟨σ2, J2, a2, b2, F2⟩ := (kd b kb).1 h2 g2
          refine ⟨σ1 ++ σ2, J1.two J2 a1 a2 b1 b2, by omega, by omega, fun F hF => ?_⟩
          obtain ⟨e1, e2⟩ := F2 F hF.r
          rw [F1 F hF.l (hF.1 _ (hlet _ hh)), e1, e2, List.map_append]
          exact ⟨rfl, rfl⟩
        | simple h0 => exact absurd h0 hs
        | op _ hh2 _ _ _ => rw [hh] at hh2; rcases hh2 with z | z <;> cases z
        | word h0 _ => rw [hh] at h0; cases h0
      | @word _ _ w m1 _ _ hw0 hw h1 =>
        cases g with
        | word _ g1 =>
          obtain ⟨σ1, J1, a1, b1, F1⟩ := P h1 g1
          have := hw.lt
          refine ⟨_, J1.fst hw a1 b1, by omega, by omega, fun F hF => ?_⟩
          have e3 : F w = sW _ := hF.hd
          rw [cal_nam, e3]
          exact ⟨rfl, F1 F hF.tl e3⟩
        | simple h0 => exact absurd h0 hs
        | op _ hh2 _ _ _ => rcases hh2 with z | z <;> rw [z] at hw0 <;> cases hw0
        | lett hh2 _ _ _ => rw [hh2] at hw0; cases hw0
    -- done
    refine ⟨S, P, ?_⟩
    intro j j2 m ls q m' c ls2 q2 c' h g
    by_cases hs : simple t = true
    · have hf := flt hs
      have e1 : ls = [] ∧ q = .give j t ∧ m' = m := by
        cases h with
        | give _ _ h1 =>
          obtain ⟨rfl, rfl, rfl⟩ := si_ _ t (Nat.le_refl _) ar hs h1
          exact ⟨rfl, rfl, rfl⟩
        | lett hh _ _ _ _ => rw [hh] at hf; cases hf
        | ask hh _ => rw [hh] at hf; cases hf
        | iff hh _ _ _ _ _ => rw [hh] at hf; cases hf
      have e2 : ls2 = [] ∧ q2 = .give j2 t ∧ c' = c := by
        cases g with
        | simple _ => exact ⟨rfl, rfl, rfl⟩
        | lett hh _ _ _ => rw [hh] at hf; cases hf
        | ask hh _ => rw [hh] at hf; cases hf
        | iff hh _ _ _ _ => rw [hh] at hf; cases hf
        | tell hh _ _ => rw [hh] at hf; cases hf
        | op h0 _ _ => rw [hs] at h0; cases h0
      obtain ⟨rfl, rfl, rfl⟩ := e1
      obtain ⟨rfl, rfl, rfl⟩ := e2
      refine ⟨[], .nil, Nat.le_refl _, Nat.le_refl _, fun F hF hx => ⟨rfl, ?_⟩⟩
      show Pt.give j2 t = Pt.give (F j) (N.calT F t)
      rw [hx, self hs F hF.1]
    have hs' : simple t = false := by simpa using hs
    cases h with
    | @lett _ _ y a b _ la m1 lb _ _ hh hk h1 _ h2 =>
      have ka : a ∈ kidsT t := by rw [hk]; simp
      have kb : b ∈ kidsT t := by rw [hk]; simp
      cases g with
      | lett hh2 hk2 g1 g2 =>
        rw [hh] at hh2
        cases hh2
        rw [hk] at hk2
        cases hk2
        obtain ⟨σ1, J1, a1, b1, F1⟩ := (kd a ka).2.1 h1 g1
        obtain ⟨σ2, J2, a2, b2, F2⟩ := (kd b kb).2.2 h2 g2
        refine ⟨σ1 ++ σ2, J1.two J2 a1 a2 b1 b2, by omega, by omega, fun F hF hx => ?_⟩
        obtain ⟨e1, e2⟩ := F2 F hF.r hx
        rw [F1 F hF.l (hF.1 _ (hlet _ hh)), e1, e2, List.map_append]
        exact ⟨rfl, rfl⟩
      | simple h0 => exact absurd h0 hs
      | ask hh2 _ => rw [hh] at hh2; cases hh2
      | iff hh2 _ _ _ _ => rw [hh] at hh2; cases hh2
      | tell hh2 _ _ => rw [hh] at hh2; cases hh2
      | op _ hh2 _ => rw [hh] at hh2; rcases hh2 with z | z <;> cases z
    | @ask _ f _ _ la ss _ hh hL =>
      cases g with
      | ask hh2 gL =>
        rw [hh] at hh2
        cases hh2
        obtain ⟨σ1, J1, a1, b1, F1⟩ := qL (fun u hu => (kd u hu).1) hL gL
        refine ⟨σ1, J1, a1, b1, fun F hF hx => ?_⟩
        obtain ⟨e1, e2⟩ := F1 F hF
        rw [e1, e2, ← hx]
        exact ⟨rfl, rfl⟩
      | simple h0 => exact absurd h0 hs
      | lett hh2 _ _ _ => rw [hh] at hh2; cases hh2
      | iff hh2 _ _ _ _ => rw [hh] at hh2; cases hh2
      | tell hh2 _ _ => rw [hh] at hh2; cases hh2
      | op _ hh2 _ => rw [hh] at hh2; rcases hh2 with z | z <;> cases z
    | @iff _ _ a b d _ la s m2 lb qb m3 lc qc _ hh hk h1 h2 _ h3 =>
      have ka : a ∈ kidsT t := by rw [hk]; simp
      have kb : b ∈ kidsT t := by rw [hk]; simp
      have kc : d ∈ kidsT t := by rw [hk]; simp
      cases g with
      | iff hh2 hk2 g1 g2 g3 =>
        rw [hk] at hk2
        cases hk2
        obtain ⟨σ1, J1, a1, b1, F1⟩ := (kd a ka).1 h1 g1
        obtain ⟨σ2, J2, a2, b2, F2⟩ := (kd b kb).2.2 h2 g2
        obtain ⟨σ3, J3, a3, b3, F3⟩ := (kd d kc).2.2 h3 g3
        refine ⟨_, J1.two (J2.two J3 a2 a3 b2 b3) a1 (by omega) b1 (by omega), by omega, by omega, fun F hF hx => ?_⟩
        obtain ⟨e1, e2⟩ := F1 F hF.l
        obtain ⟨e4, e5⟩ := F2 F hF.r.l hx
        obtain ⟨e6, e7⟩ := F3 F hF.r.r hx
        rw [e1, e2, e4, e5, e6, e7, ← cal_put, ← cal_put]
        exact ⟨rfl, rfl⟩
      | simple h0 => exact absurd h0 hs
      | ask hh2 _ => rw [hh] at hh2; cases hh2
      | lett hh2 _ _ _ => rw [hh] at hh2; cases hh2
      | tell hh2 _ _ => rw [hh] at hh2; cases hh2
      | op _ hh2 _ => rw [hh] at hh2; rcases hh2 with z | z <;> cases z
    | @give _ _ _ la s _ hl hw h1 =>
      cases g with
      | @tell _ _ a0 _ _ _ _ hh hk g1 =>
        cases h1 with
        | @word _ _ w m1 _ _ _ hw2 h2 =>
          cases h2 with
          | @tell _ _ a _ lb s3 _ hh3 hk3 h4 =>
            rw [hk3] at hk
            cases hk
            have ka : a0 ∈ kidsT t := by rw [hk3]; simp
            obtain ⟨σ1, J1, a1, b1, F1⟩ := (kd a0 ka).1 h4 g1
            have := hw2.lt
            refine ⟨_, J1.aft hw2 a1 b1, by omega, by omega, fun F hF hx => ?_⟩
            obtain ⟨e1, e2⟩ := F1 F hF.tl
            have e3 : F w = sW _ := hF.hd
            rw [List.map_append, e1, e2, ← hx, ← e3]
            refine ⟨rfl, ?_⟩
            show Pt.give (F j) (mkL (.nam (F w)) []) = Pt.give (F j) (N.calT F (mkL (.nam w) []))
            rw [cal_nam]
          | lett h0 _ _ _ _ => rw [h0] at hh; cases hh
          | ask h0 _ _ => rw [h0] at hh; cases hh
          | iff h0 _ _ _ _ _ _ _ => rw [h0] at hh; cases hh
          | plain h0 _ => rw [hh] at h0; cases h0
        | leaf h0 => rcases h0 with ⟨z, h0⟩ | ⟨z, h0⟩ <;> rw [h0] at hh <;> cases hh
        | @op _ _ _ _ _ _ l h0 _ => rw [hh] at h0; cases l <;> cases h0
        | lett h0 _ _ _ _ => rw [h0] at hh; cases hh
      | op _ ho gL =>
        cases h1 with
        | @op _ _ _ sa sb _ l hh hL =>
          obtain ⟨σ1, J1, a1, b1, F1⟩ := qL (fun u hu => (kd u hu).1) hL gL
          refine ⟨σ1, J1, a1, b1, fun F hF hx => ?_⟩
          obtain ⟨e1, e2⟩ := F1 F hF
          rw [e1, e2, ← hx, mkop_is hh]
          refine ⟨rfl, ?_⟩
          show _ = Pt.give (F j) (N.calT F (mkL (hdT t) [sa, sb]))
          rw [cal_op ho]
        | leaf h0 => rcases h0 with ⟨z, h0⟩ | ⟨z, h0⟩ <;> rw [h0] at ho <;> rcases ho with o | o <;> cases o
        | lett h0 _ _ _ _ => rw [h0] at ho; rcases ho with o | o <;> cases o
        | word h0 _ _ => rcases ho with o | o <;> rw [o] at h0 <;> cases h0
      | simple h0 => exact absurd h0 hs
      | ask hh2 _ => rw [hh2] at hw; cases hw
      | lett hh2 _ _ _ => rw [hh2] at hl; cases hl
      | iff hh2 _ _ _ _ => rw [hh2] at hl; cases hl
end KB

namespace KB
open PySem L2

/-! ### told anew, both turnings are the same -/
def rn : List (Str × Str) → Str → Str
  | [], y => y
  | e :: r, y => if y = e.1 then e.2 else rn r y
theorem rn_not : ∀ {σ : List (Str × Str)} {y : Str}, y ∉ σ.map (·.1) → rn σ y = y
  | [], _, _ => rfl
  | e :: r, y, h => by
    have h1 : y ≠ e.1 := fun z => h (by rw [z]; exact List.mem_cons_self)
    show (if y = e.1 then e.2 else rn r y) = y
    rw [if_neg h1]
    exact rn_not fun z => h (List.mem_cons_of_mem _ z)
theorem rn_at : ∀ {σ : List (Str × Str)}, (σ.map (·.1)).Nodup → ∀ e ∈ σ, rn σ e.1 = e.2
  | [], _, _, h => nomatch h
  | x :: r, nd, e, h => by
    obtain ⟨n1, n2⟩ := List.nodup_cons.mp (show (x.1 :: r.map (·.1)).Nodup from nd)
    show (if e.1 = x.1 then x.2 else rn r e.1) = e.2
    rcases List.mem_cons.mp h with z | z
    · rw [z, if_pos rfl]
    · rw [if_neg fun y => n1 (by rw [← y]; exact List.mem_map.mpr ⟨e, z, rfl⟩)]
      exact rn_at n2 e z
theorem sW_home (c : Nat) : sW c ≠ "home" := fun e => by
  have h1 : TL.tl (sW c) = TL.numL c := TL.tl_num c
  rw [e] at h1
  have h2 : (104 : Nat) ∈ TL.numL c := by
    rw [← h1]
    decide +kernel
  exact TL.numL_free (.inr (by decide)) h2
theorem Jn.cp {tk : List Str} {D R : Nat → Prop} {σ : List (Str × Str)} (h : Jn tk D R σ) : Cp tk (rn σ) σ := ⟨fun y hy => rn_not fun z => (h.d y z).1 hy, fun e he => rn_at h.n1 e he⟩
theorem Jn.home {tk : List Str} {D R : Nat → Prop} {σ : List (Str × Str)} (h : Jn tk D R σ) : rn σ "home" = "home" := rn_not fun z => by
  obtain ⟨_, k, _, e⟩ := h.d _ z
  exact wordOf_home k e.symm
theorem Jn.cases {tk : List Str} {D R : Nat → Prop} {σ : List (Str × Str)} (h : Jn tk D R σ) (y : Str) : (y ∉ σ.map (·.1) ∧ rn σ y = y) ∨ ∃ e ∈ σ, e.1 = y ∧ rn σ y = e.2 ∧ ∃ i, e.2 = sW i := by
  by_cases c : y ∈ σ.map (·.1)
  · obtain ⟨e, he, rfl⟩ := List.mem_map.mp c
    obtain ⟨i, _, hi⟩ := h.r e.2 (List.mem_map.mpr ⟨e, he, rfl⟩)
    exact .inr ⟨e, he, rfl, rn_at h.n1 e he, i, hi⟩
  · exact .inl ⟨c, rn_not c⟩
theorem nd_inj {α : Type} {l : List (α × Str)} (h : (l.map (·.2)).Nodup) : ∀ a ∈ l, ∀ b ∈ l, a.2 = b.2 → a = b := by
  induction l with
  | nil => intro a ha; cases ha
  | cons x r ih =>
    obtain ⟨n1, n2⟩ := List.nodup_cons.mp (show (x.2 :: r.map (·.2)).Nodup from h)
    intro a ha b hb e
    rcases List.mem_cons.mp ha with z | z <;> rcases List.mem_cons.mp hb with y | y
    · rw [z, y]
    · exact absurd (List.mem_map.mpr ⟨b, y, rfl⟩ : b.2 ∈ r.map (·.2)) (by rw [← e, z]; exact n1)
    · exact absurd (List.mem_map.mpr ⟨a, z, rfl⟩ : a.2 ∈ r.map (·.2)) (by rw [e, y]; exact n1)
    · exact ih n2 a z b y e
/-- words stay apart -/
theorem Jn.inj {tk : List Str} {D R : Nat → Prop} {σ : List (Str × Str)} (h : Jn tk D R σ) {x y : Str} (hx : isW x = true) (hy : isW y = true) (e : rn σ x = rn σ y) : x = y := by
  rcases h.cases x with ⟨_, a⟩ | ⟨p, hp, p1, p2, i, p3⟩ <;> rcases h.cases y with ⟨_, b⟩ | ⟨q, hq, q1, q2, j, q3⟩
  · rw [← a, e, b]
  · rw [a, q2, q3] at e
    rw [e, sW_notW] at hx
    cases hx
  · rw [b, p2, p3] at e
    rw [← e, sW_notW] at hy
    cases hy
  · rw [p2, q2] at e
    have := nd_inj h.n2 p hp q hq e
    rw [← p1, ← q1, this]
theorem nd_map {F : Str → Str} : ∀ {ws : List Str}, ws.Nodup → (∀ x ∈ ws, ∀ y ∈ ws, F x = F y → x = y) → (ws.map F).Nodup
  | [], _, _ => List.nodup_nil
  | x :: r, nd, h => by
    obtain ⟨n1, n2⟩ := List.nodup_cons.mp nd
    refine List.nodup_cons.mpr ⟨fun z => ?_, nd_map n2 fun a ha b hb => h a (List.mem_cons_of_mem _ ha) b (List.mem_cons_of_mem _ hb)⟩
    obtain ⟨y, hy, e⟩ := List.mem_map.mp z
    exact n1 (by rw [← h y (List.mem_cons_of_mem _ hy) x List.mem_cons_self e]; exact hy)
theorem num_map {F : Str → Str} {ws : List Str} (nd : ws.Nodup) (hi : ∀ x ∈ ws, ∀ y ∈ ws, F x = F y → x = y) {y : Str} (hy : y ∈ ws) : N.numW (ws.map F) (F y) = N.numW ws y := by
  obtain ⟨i, h1, h2, h3⟩ := N.numW_get nd hy
  rw [h3]
  refine N.numW_at (nd_map nd hi) ?_
  rw [List.getElem?_map, h2]
  rfl
theorem calT_two {g g' F : Str → Str} : ∀ {t : Tm}, (∀ y ∈ N.nmsT t, g' (F y) = g y) → N.calT g' (N.calT F t) = N.calT g t := by
  intro t
  induction t with
  | mk h n k ih =>
    intro hy
    have e1 : N.calH g' (N.calH F h) = N.calH g h := by
      cases h with
      | nam x => exact congrArg Hd.nam (hy x (List.mem_append_left _ List.mem_cons_self))
      | lett x => exact congrArg Hd.lett (hy x (List.mem_append_left _ List.mem_cons_self))
      | _ => rfl
    have e2 : ((List.ofFn fun i => N.calT F (k i)).map (N.calT g')) = List.ofFn fun i => N.calT g (k i) := by
      rw [List.map_ofFn]
      congr 1
      funext i
      exact ih i fun y hm => hy y (List.mem_append_right _ (List.mem_flatten.mpr ⟨_, List.mem_ofFn.mpr ⟨i, rfl⟩, hm⟩))
    show N.calT g' (mkL (N.calH F h) (List.ofFn fun i => N.calT F (k i))) = mkL (N.calH g h) (List.ofFn fun i => N.calT g (k i))
    rw [calT_mkL, e1, e2]
theorem calP_two {ws js : List Str} {g g' k k' F : Str → Str} (hg : ∀ y ∈ ws, g' (F y) = g y) (hk : ∀ j ∈ js, k' (F j) = k j) : ∀ {p : Pt}, N.aP ws js p → N.calP g' k' (N.calP F F p) = N.calP g k p
  | .give j t, h => by
    show Pt.give (k' (F j)) (N.calT g' (N.calT F t)) = Pt.give (k j) (N.calT g t)
    rw [hk j h.1, calT_two fun y hy => hg y (h.2.c y hy)]
  | .ask f ts j, h => by
    show Pt.ask f ((ts.map (N.calT F)).map (N.calT g')) (k' (F j)) = Pt.ask f (ts.map (N.calT g)) (k j)
    rw [hk j h.1, List.map_map]
    congr 1
    exact List.map_congr_left fun t ht => calT_two fun y hy => hg y ((h.2.2.2 t ht).c y hy)
  | .tell x t p, h => by
    show Pt.tell (g' (F x)) (N.calT g' (N.calT F t)) (N.calP g' k' (N.calP F F p)) = Pt.tell (g x) (N.calT g t) (N.calP g k p)
    rw [hg x h.1.2, calT_two fun y hy => hg y (h.2.1.c y hy), calP_two hg hk h.2.2]
  | .lett x t p, h => by
    show Pt.lett (g' (F x)) (N.calT g' (N.calT F t)) (N.calP g' k' (N.calP F F p)) = Pt.lett (g x) (N.calT g t) (N.calP g k p)
    rw [hg x h.1.2, calT_two fun y hy => hg y (h.2.1.c y hy), calP_two hg hk h.2.2]
  | .iff t p q, h => by
    show Pt.iff (N.calT g' (N.calT F t)) (N.calP g' k' (N.calP F F p)) (N.calP g' k' (N.calP F F q)) = Pt.iff (N.calT g t) (N.calP g k p) (N.calP g k q)
    rw [calT_two fun y hy => hg y (h.1.c y hy), calP_two hg hk h.2.1, calP_two hg hk h.2.2]
  | .post j x p q, h => by
    show Pt.post (k' (F j)) (g' (F x)) (N.calP g' k' (N.calP F F p)) (N.calP g' k' (N.calP F F q)) = Pt.post (k j) (g x) (N.calP g k p) (N.calP g k q)
    rw [hk j h.1.2, hg x h.2.1.2, calP_two hg hk h.2.2.1, calP_two hg hk h.2.2.2]
theorem aL_cal {ws js : List Str} {F : Str → Str} : ∀ {p : Pt}, N.aP ws js p → N.aL (ws.map F) (js.map F) (N.calP F F p) := by
  have tm : ∀ {t : Tm}, N.TmW ws t → N.TmL (ws.map F) (N.calT F t) := fun {t} h => ⟨⟨N.ht_cal h.s.ht⟩, fun y hy => by
    rw [N.nms_cal] at hy
    obtain ⟨z, hz, rfl⟩ := List.mem_map.mp hy
    exact List.mem_map.mpr ⟨z, h.c z hz, rfl⟩⟩
  have mw : ∀ {x : Str}, x ∈ ws → F x ∈ ws.map F := fun h => List.mem_map.mpr ⟨_, h, rfl⟩
  have mj : ∀ {x : Str}, x ∈ js → F x ∈ js.map F := fun h => List.mem_map.mpr ⟨_, h, rfl⟩
  intro p
  induction p with
  | give j t => exact fun h => ⟨mj h.1, tm h.2⟩
  | ask f ts j => exact fun h => ⟨mj h.1, trivial, by rw [List.length_map]; exact h.2.2.1, fun t ht => by
      obtain ⟨u, hu, rfl⟩ := List.mem_map.mp ht
      exact tm (h.2.2.2 u hu)⟩
  | tell x t p ih => exact fun h => ⟨⟨trivial, mw h.1.2⟩, tm h.2.1, ih h.2.2⟩
  | lett x t p ih => exact fun h => ⟨⟨trivial, mw h.1.2⟩, tm h.2.1, ih h.2.2⟩
  | iff t p q i1 i2 => exact fun h => ⟨tm h.1, i1 h.2.1, i2 h.2.2⟩
  | post j x p q i1 i2 => exact fun h => ⟨⟨trivial, mj h.1.2⟩, ⟨trivial, mw h.2.1.2⟩, i1 h.2.2.1, i2 h.2.2.2⟩
theorem aP_isW {ws js : List Str} : ∀ {p : Pt}, N.aP ws js p → ∀ x ∈ N.wP p, isW x = true
  | .give _ _, _, _, h => nomatch h
  | .ask _ _ _, _, _, h => nomatch h
  | .tell x _ p, h, y, hy => by
    rcases List.mem_cons.mp hy with z | z
    · rw [z]; exact h.1.1
    · exact aP_isW h.2.2 y z
  | .lett x _ p, h, y, hy => by
    rcases List.mem_cons.mp hy with z | z
    · rw [z]; exact h.1.1
    · exact aP_isW h.2.2 y z
  | .iff _ p q, h, y, hy => by
    rcases List.mem_append.mp hy with z | z
    · exact aP_isW h.2.1 y z
    · exact aP_isW h.2.2 y z
  | .post _ x p q, h, y, hy => by
    rcases List.mem_cons.mp hy with z | z
    · rw [z]; exact h.2.1.1
    rcases List.mem_append.mp z with z | z
    · exact aP_isW h.2.2.1 y z
    · exact aP_isW h.2.2.2 y z
/-- the law's turning of an errand -/
def LwE (e : Er) (t : N.TEr) (c c' : Nat) : Prop := t.1 = e.1 ∧ t.2.1 = e.2.1 ∧ ∃ ls q, t.2.2 = putAh ls q ∧ LwD e.2.2 "home" c ls q c'
end KB

set_option pp.maxSteps 400
namespace KB
open PySem L2 HT LamX NdefX

theorem simple_one {t : Tm} (h : hdT t = .plus ∨ hdT t = .less) {a b : Tm} (hk : kidsT t = [a, b]) : simple t = (simple a && simple b) := by
  obtain ⟨h0, n, k⟩ := t
  have hk : List.ofFn k = [a, b] := hk
  show (flatHd h0 && (List.ofFn fun i => simple (k i)).all id) = _
  have e : (List.ofFn fun i => simple (k i)) = (List.ofFn k).map simple := by rw [List.map_ofFn]; rfl
  rw [e, hk]
  have hf : flatHd h0 = true := by rcases h with h | h <;> (have h : h0 = _ := h; rw [h]; rfl)
  rw [hf]
  show (simple a && (simple b && true)) = _
  rw [Bool.and_true]
theorem simple_no {t : Tm} (h : flatHd (hdT t) = false) : simple t = false := by
  obtain ⟨h0, n, k⟩ := t
  show (flatHd h0 && _) = false
  rw [show flatHd h0 = false from h]
  rfl
theorem simple_leaf {t : Tm} (h : flatHd (hdT t) = true) (hk : kidsT t = []) : simple t = true := by
  obtain ⟨h0, n, k⟩ := t
  have hk : List.ofFn k = [] := hk
  show (flatHd h0 && (List.ofFn fun i => simple (k i)).all id) = true
  have e : (List.ofFn fun i => simple (k i)) = (List.ofFn k).map simple := by rw [List.map_ofFn]; rfl
  rw [e, hk, show flatHd h0 = true from h]
  rfl
section
variable {P : Program} {w : World} {K : PySem.W.Frag} {mg : Str → Option Value} {base : Heap}
/-! ### _law_is_simple_term -/
def spSimB (n : Nat) : Sp := fun vs H Q _ => ∃ (a : Addr) (t : Tm), vs = [.ref a] ∧ At H t a ∧ HtLe n t ∧ ∀ H', Same H H' → Q (.bl (simple t)) H'
abbrev s_law_is_simple_term : Stmt := top 41
theorem scLis_simple_term : FnScope ["term"] ["term"] (defScope s_law_is_simple_term) := ⟨rfl, rfl, rfl, by decide +kernel, rfl, by decide +kernel, by decide +kernel⟩
theorem ok_simB {n : Nat} {f : Addr} {fd : FuncData} (F : Fun K "_law_is_simple_term" "_law_is_simple_term" s_law_is_simple_term f fd) (G_law_is_simple_term : FnOk P w K mg base CX0 (n + 1) f fd ["term"] (spSimB n)) (R_law_is_simple_term : Ref K mg "_law_is_simple_term" f fd ["term"]) : FnOk P w K mg base CX0 (n + 2) f fd ["term"] (spSimB (n + 1)) := by
  refine F.ok scLis_simple_term (fun vs H Q E h => ?_) (fun cdv A outer s H vs Q E hr h => ?_)
  · obtain ⟨a, t, rfl, _⟩ := h
    rfl
  obtain ⟨a, t, rfl, hA, hc, q⟩ := h
  refine ⟨_, (pss_cons (ps_if (pt_cmpR op_in_seq (pe_ix ix_tup (pv 0) pe_int (fun _ _ => rfl)) (pe_tup (pa_cons pe_str (pa_cons pe_str pa_nil))) rfl) (pss_one (ps_ret (pe_and (pe_call G_law_is_simple_term hr rfl R_law_is_simple_term.m R_law_is_simple_term.k R_law_is_simple_term.b .nil pass0 (pa_cons (pe_ix ix_tup (pv 0) pe_int (fun _ _ => rfl)) pa_nil)) (pe_one (pe_call G_law_is_simple_term hr rfl R_law_is_simple_term.m R_law_is_simple_term.k R_law_is_simple_term.b .nil pass0 (pa_cons (pe_ix ix_tup (pv 0) pe_int (fun _ _ => rfl)) pa_nil)))))) pss_nil)
    (pss_one (ps_ret (pe_cmpR op_in_seq (pe_ix ix_tup (pv 0) pe_int (fun _ _ => rfl)) (pe_tup (pa_cons pe_str (pa_cons pe_str pa_nil))) rfl)))), ?_⟩
  obtain ⟨xs, l, kk⟩ := At.kids hA
  obtain ⟨r, hd⟩ := l.head
  refine ⟨_, rfl, a, _, _, _, rfl, rfl, SqT.of hd, at0, sz (by show 2 ≤ 100000; decide), fun t0 ht0 => ?_⟩
  have s1 := same_new ht0 (.tup [.str "plus", .str "less"])
  refine ⟨t0, _, rfl, .inr (SqT.of upd_same), rfl, rfl, _, rfl, ?_⟩
  have fin : ∀ z : Bool, z = simple t → ∀ H', Same H H' → Q (.bl z) H' := fun z hz H' s => by rw [hz]; exact q H' s
  have both : ∀ (l2 : xs.length = 2 ∧ H a = some (.tup (.str (hs (hdT t)) :: xs))), ∃ b1 b2 t1 t2, H a = some (.tup [.str (hs (hdT t)), .ref b1, .ref b2]) ∧ kidsT t = [t1, t2] ∧ (At H t1 b1 ∧ HtLe n t1) ∧ At H t2 b2 ∧ HtLe n t2 := fun l2 => by
    have hl := kk.len
    have : ∃ b1 b2 t1 t2, xs = [.ref b1, .ref b2] ∧ kidsT t = [t1, t2] ∧ At H t1 b1 ∧ At H t2 b2 := by
      match xs, kidsT t, kk, l2.1 with
      | [x, y], [t1, t2], ⟨⟨b1, e1, h1⟩, ⟨b2, e2, h2⟩, _⟩, _ => exact ⟨b1, b2, t1, t2, by rw [e1, e2], rfl, h1, h2⟩
    obtain ⟨b1, b2, t1, t2, ex, ek, h1, h2⟩ := this
    have m1 : t1 ∈ kidsT t := by rw [ek]; simp
    have m2 : t2 ∈ kidsT t := by rw [ek]; simp
    exact ⟨b1, b2, t1, t2, by rw [l2.2, ex], ek, ⟨h1, hc.kid m1⟩, h2, hc.kid m2⟩
  have two : ∀ b1 b2 t1 t2, (hdT t = .plus ∨ hdT t = .less) → H a = some (.tup [.str (hs (hdT t)), .ref b1, .ref b2]) → kidsT t = [t1, t2] → (At H t1 b1 ∧ HtLe n t1) → At H t2 b2 ∧ HtLe n t2 → ∀ H1, Same H H1 → (∃ p xs i v, V.ref a = .ref p ∧ V.int 1 = .int i ∧ SqT K H1 p xs ∧ atI xs i = some v ∧ True) := fun b1 b2 t1 t2 _ ha _ _ _ H1 s => ⟨a, _, 1, _, rfl, rfl, SqT.of (s _ _ ha), at1, trivial⟩
  cases hh : hdT t with
  | num z =>
    rw [hh] at l
    have hk0 : kidsT t = [] := by
      have := kk.len
      rw [l.1] at this
      exact List.length_eq_zero_iff.mp this.symm
    refine itF rfl ⟨_, rfl, a, _, _, _, rfl, rfl, SqT.of (s1 _ _ l.2), at0, sz (by show 2 ≤ 100000; decide), fun t2 ht2 => ?_⟩
    have s2 := same_new ht2 (.tup [.str "number", .str "name"])
    exact ⟨t2, _, rfl, .inr (SqT.of upd_same), rfl, rfl, fin true (simple_leaf (by rw [hh]; rfl) hk0).symm _ (s1.trans s2)⟩
  | nam z =>
    rw [hh] at l
    have hk0 : kidsT t = [] := by
      have := kk.len
      rw [l.1] at this
      exact List.length_eq_zero_iff.mp this.symm
    refine itF rfl ⟨_, rfl, a, _, _, _, rfl, rfl, SqT.of (s1 _ _ l.2), at0, sz (by show 2 ≤ 100000; decide), fun t2 ht2 => ?_⟩
    have s2 := same_new ht2 (.tup [.str "number", .str "name"])
    exact ⟨t2, _, rfl, .inr (SqT.of upd_same), rfl, rfl, fin true (simple_leaf (by rw [hh]; rfl) hk0).symm _ (s1.trans s2)⟩
  | plus =>
    rw [hh] at l both
    obtain ⟨b1, b2, t1, t2, ha, ek, ⟨h1, h3⟩, g1, g3⟩ := both l
    refine itT rfl ⟨_, rfl, a, _, _, _, rfl, rfl, SqT.of (s1 _ _ ha), at1, b1, t1, rfl, h1.tk (tk_same s1), h3, fun H2 s2 => ⟨_, rfl, ?_⟩⟩
    have es := simple_one (.inl hh) ek
    by_cases c : simple t1 = true
    · refine itT c ⟨_, rfl, a, _, _, _, rfl, rfl, SqT.of ((s1.trans s2) _ _ ha), at2, b2, t2, rfl, g1.tk (tk_same (s1.trans s2)), g3, fun H3 s3 => ?_⟩
      exact fin _ (by rw [es, c]; rfl) _ ((s1.trans s2).trans s3)
    · have c : simple t1 = false := by simpa using c
      refine itF c (fin _ (by rw [es, c]; rfl) _ (s1.trans s2))
  | less =>
    rw [hh] at l both
    obtain ⟨b1, b2, t1, t2, ha, ek, ⟨h1, h3⟩, g1, g3⟩ := both l
    refine itT rfl ⟨_, rfl, a, _, _, _, rfl, rfl, SqT.of (s1 _ _ ha), at1, b1, t1, rfl, h1.tk (tk_same s1), h3, fun H2 s2 => ⟨_, rfl, ?_⟩⟩
    have es := simple_one (.inr hh) ek
    by_cases c : simple t1 = true
    · refine itT c ⟨_, rfl, a, _, _, _, rfl, rfl, SqT.of ((s1.trans s2) _ _ ha), at2, b2, t2, rfl, g1.tk (tk_same (s1.trans s2)), g3, fun H3 s3 => ?_⟩
      exact fin _ (by rw [es, c]; rfl) _ ((s1.trans s2).trans s3)
    · have c : simple t1 = false := by simpa using c
      refine itF c (fin _ (by rw [es, c]; rfl) _ (s1.trans s2))
  | lett z =>
    rw [hh] at l hd
    refine itF rfl ⟨_, rfl, a, _, _, _, rfl, rfl, SqT.of (s1 _ _ hd), at0, sz (by show 2 ≤ 100000; decide), fun t2 ht2 => ?_⟩
    have s2 := same_new ht2 (.tup [.str "number", .str "name"])
    exact ⟨t2, _, rfl, .inr (SqT.of upd_same), rfl, rfl, fin false (simple_no (by rw [hh]; rfl)).symm _ (s1.trans s2)⟩
  | ask z =>
    rw [hh] at l hd
    refine itF rfl ⟨_, rfl, a, _, _, _, rfl, rfl, SqT.of (s1 _ _ hd), at0, sz (by show 2 ≤ 100000; decide), fun t2 ht2 => ?_⟩
    have s2 := same_new ht2 (.tup [.str "number", .str "name"])
    exact ⟨t2, _, rfl, .inr (SqT.of upd_same), rfl, rfl, fin false (simple_no (by rw [hh]; rfl)).symm _ (s1.trans s2)⟩
  | iff =>
    rw [hh] at l hd
    refine itF rfl ⟨_, rfl, a, _, _, _, rfl, rfl, SqT.of (s1 _ _ hd), at0, sz (by show 2 ≤ 100000; decide), fun t2 ht2 => ?_⟩
    have s2 := same_new ht2 (.tup [.str "number", .str "name"])
    exact ⟨t2, _, rfl, .inr (SqT.of upd_same), rfl, rfl, fin false (simple_no (by rw [hh]; rfl)).symm _ (s1.trans s2)⟩
  | tell =>
    rw [hh] at l hd
    refine itF rfl ⟨_, rfl, a, _, _, _, rfl, rfl, SqT.of (s1 _ _ hd), at0, sz (by show 2 ≤ 100000; decide), fun t2 ht2 => ?_⟩
    have s2 := same_new ht2 (.tup [.str "number", .str "name"])
    exact ⟨t2, _, rfl, .inr (SqT.of upd_same), rfl, rfl, fin false (simple_no (by rw [hh]; rfl)).symm _ (s1.trans s2)⟩
theorem no_simB {f : Addr} {fd : FuncData} : FnOk P w K mg base CX0 1 f fd ["term"] (spSimB 0) := by
  have no : ∀ vs H Q E, ¬ spSimB 0 vs H Q E := fun vs H Q E h => by
    obtain ⟨a, t, _, _, h0, _⟩ := h
    exact h0
  exact ⟨fun vs H Q E h => absurd h (no vs H Q E), fun A outer s H args us vs Q E _ _ _ _ h => absurd h (no vs H Q E)⟩
theorem all_simB {f : Addr} {fd : FuncData} (F : Fun K "_law_is_simple_term" "_law_is_simple_term" s_law_is_simple_term f fd) (R_law_is_simple_term : Ref K mg "_law_is_simple_term" f fd ["term"]) : ∀ n : Nat, FnOk P w K mg base CX0 (n + 1) f fd ["term"] (spSimB n)
  | 0 => no_simB
  | n + 1 => ok_simB F (all_simB F R_law_is_simple_term n) R_law_is_simple_term
/-! ### _law_new -/
def frL (c : Nat) : List V := (List.range c).map fun (i : Nat) => V.int (i : Int)
theorem frL_len (c : Nat) : (frL c).length = c := by unfold frL; rw [List.length_map, List.length_range]
theorem frL_add (c : Nat) : frL c ++ [V.int (c : Int)] = frL (c + 1) := by
  unfold frL
  rw [List.range_succ, List.map_append]
  rfl
theorem frL_last (c : Nat) : atI (frL (c + 1)) (-1) = some (V.int (c : Int)) := by
  rw [← frL_add]
  exact atI_last _ _
def spNewL : Sp := fun vs H Q _ => ∃ (fr : Addr) (c : Nat), vs = [.ref fr] ∧ H fr = some (.lst (frL c)) ∧ c ≤ 50000 ∧ ∀ H', But1 fr H H' → H' fr = some (.lst (frL (c + 1))) → Q (.str (sW c)) H'
abbrev s_law_new : Stmt := top 45
theorem scLnew : FnScope ["fresh"] ["fresh"] (defScope s_law_new) := ⟨rfl, rfl, rfl, by decide +kernel, rfl, by decide +kernel, by decide +kernel⟩
theorem ok_newL (T : Txt K mg) {f : Addr} {fd : FuncData} (F : Fun K "_law_new" "_law_new" s_law_new f fd) : FnOk P w K mg base CX0 1 f fd ["fresh"] spNewL := by
  refine F.ok scLnew (fun vs H Q E h => ?_) (fun cdv A outer s H vs Q E hr h => ?_)
  · obtain ⟨fr, c, rfl, _⟩ := h
    rfl
  obtain ⟨fr, c, rfl, hf, hc, q⟩ := h
  refine ⟨_, (pss_cons (ps_expr (pe_bm PySem.F.plainAttrs_list PySem.F.slot_list_append PySem.F.type_list_append mt_append (pv 0) (pa_cons (pe_callB call_len_seq (by rfl) T.m_len PySem.boot_len (pa_cons (pv 0) pa_nil)) pa_nil)))
    (pss_one (ps_ret (pe_callTy call_str_int (by rfl) T.m_str (by decide +kernel) (pa_cons (pe_ix ix_list (pv 0) (pe_un un_neg pe_int) (fun _ _ => rfl)) pa_nil))))), ?_⟩
  have hl := frL_len c
  refine ⟨_, rfl, .inl ⟨rfl, _, SqL.of hf⟩, _, rfl, fr, _, rfl, .inl (SqL.of hf), fr, frL c, _, rfl, rfl, hf, Nat.lt_of_le_of_lt (m := 50000) (by rw [hl]; exact hc) (by decide), ?_⟩
  have e : frL c ++ [V.int ((frL c).length : Int)] = frL (c + 1) := by rw [hl]; exact frL_add c
  rw [e]
  have h1 : upd H fr (.lst (frL (c + 1))) fr = some (.lst (frL (c + 1))) := upd_same
  refine ⟨_, rfl, _, rfl, fr, _, _, _, rfl, rfl, SqL.of h1, frL_last c, _, rfl, ?_, q _ (fun b o hb h => by rw [upd_ne hb]; exact h) h1⟩
  have hn : ∀ k : Nat, k ≤ 50000 → (((k : Nat) : Int)).natAbs.log2 < 1920 := fun k hk => by
    rw [Int.natAbs_natCast]
    by_cases c0 : k = 0
    · rw [c0]; decide
    · have := (Nat.log2_lt (k := 16) c0).mpr (by omega)
      omega
  exact hn _ hc
/-! ### _law_behind_lead -/
abbrev s_law_behind_lead : Stmt := top 46
theorem scLbehind_lead : FnScope ["lead", "part", "one"] ["lead", "part"] (defScope s_law_behind_lead) := ⟨rfl, rfl, rfl, by decide +kernel, rfl, by decide +kernel, by decide +kernel⟩
def spBeh : Sp := fun vs H Q _ => ∃ (la b : Addr) (ls : List V) (r : List Ld) (p : Pt), vs = [.ref la, .ref b] ∧ H la = some (.lst ls) ∧ All2 (LdV H) r ls ∧ PAt H p b ∧ r.length ≤ 50000 ∧ ∀ H' b', Same H H' → PAt H' (putAh r p) b' → Q (.ref b') H'
theorem ok_beh (T : Txt K mg) {f : Addr} {fd : FuncData} (F : Fun K "_law_behind_lead" "_law_behind_lead" s_law_behind_lead f fd) : FnOk P w K mg base CX0 1 f fd ["lead", "part"] spBeh := by
  refine F.ok scLbehind_lead (fun vs H Q E h => ?_) (fun cdv A outer s H vs Q E hr h => ?_)
  · obtain ⟨la, b, ls, r, p, rfl, _⟩ := h
    rfl
  obtain ⟨la, b, ls, r, p, rfl, hl, kl, hb, hr5, q⟩ := h
  refine ⟨_, (pss_cons (ps_for PassesOwn.never rfl (pi_list (pe_revL (pv 0))) (pg_name (i := 2) scLbehind_lead.nd rfl (Or.inl rfl)) (pss_one (ps_if (pt_cmpR op_eq (pe_ix ix_tup (pv 2) pe_int (fun _ _ => rfl)) pe_str (nomark _)) (pss_one (ps_set (i := 1) scLbehind_lead.nd rfl (Or.inl rfl) (pe_op op_catA (pe_slice sl_tupA (pv 2) po_none (po_some pe_int)) (pe_tup (pa_cons (pv 1) (pa_cons (pe_ix ix_tup (pv 2) pe_int (fun _ _ => rfl)) pa_nil)))))) (pss_one (ps_set (i := 1) scLbehind_lead.nd rfl (Or.inl rfl) (pe_op op_catA (pv 2) (pe_tup (pa_cons (pv 1) pa_nil))))))))
    (pss_one (ps_ret (pv 1)))), ?_⟩
  have hlen := kl.len
  refine ⟨_, rfl, la, ls, rfl, SqL.of hl, fun D hD => ?_⟩
  have s0 := same_new hD (.lst ls.reverse)
  have hD2 : upd H D (.lst ls.reverse) D = some (.lst ls.reverse) := upd_same
  generalize upd H D (.lst ls.reverse) = H0 at s0 hD2 ⊢
  refine ⟨D, rfl, ⟨_, SqL.of hD2⟩, for_list (K := K) (a := D) (xs := ls.reverse) (fun i σ H' => ∃ b' o2, σ = [some (.ref la), some (.ref b'), o2] ∧ Same H0 H' ∧ PAt H' (putAh (r.drop (r.length - i)) p) b') ⟨b, _, rfl, Same.refl _, ?_⟩ ?_ ?_ ?_⟩
  · rw [Nat.sub_zero, List.drop_length]
    exact PAt.tk (tk_same s0) hb
  · rintro i σ H' _ ⟨b', o2, rfl, s1, _⟩
    exact SqL.of (s1 _ _ hD2)
  · rintro i x σ H1 hx0 ⟨b', o2, rfl, s1, h1⟩
    have hi : i < ls.length := by
      have := (List.getElem?_eq_some_iff.mp hx0).1
      rwa [List.length_reverse] at this
    have hx : ls[ls.length - 1 - i]? = some x := by rw [← hx0, List.getElem?_reverse hi]
    obtain ⟨ld, hld, q1, b1, rfl, g⟩ := kl.get hx
    rw [hlen] at hld hi
    have s01 := s0.trans s1
    have hj : r.length - 1 - i < r.length := by omega
    have eD : r.drop (r.length - (i + 1)) = ld :: r.drop (r.length - i) := by
      have e1 : r.length - (i + 1) = r.length - 1 - i := by omega
      have e2 : r.length - i = r.length - 1 - i + 1 := by omega
      rw [e1, e2, List.drop_eq_getElem_cons hj]
      congr 1
      rw [List.getElem?_eq_getElem hj] at hld
      exact Option.some.inj hld
    rw [eD]
    cases ld with
    | lett y s =>
      obtain ⟨g1, g2⟩ := g
      have g1' := s01 _ _ g1
      refine ⟨_, rfl, q1, _, _, _, rfl, rfl, SqT.of g1', at0, rfl, _, rfl, itF rfl ?_⟩
      refine ⟨_, rfl, _, rfl, sz (by show 1 ≤ 100000; decide), fun t1 ht1 => ?_⟩
      have s2 := same_new ht1 (.tup [.ref b'])
      refine catA_of (s2 _ _ g1') upd_same (by show 3 + 1 ≤ 100000; decide) fun r2 H6 s6 g6 => ?_
      have s26 := s2.trans s6
      exact ⟨r2, _, rfl, s1.trans s26, b1, b', g6, g2.tk (tk_same (s01.trans s26)), PAt.tk (tk_same s26) h1⟩
    | tell y s =>
      obtain ⟨g1, g2⟩ := g
      have g1' := s01 _ _ g1
      refine ⟨_, rfl, q1, _, _, _, rfl, rfl, SqT.of g1', at0, rfl, _, rfl, itF rfl ?_⟩
      refine ⟨_, rfl, _, rfl, sz (by show 1 ≤ 100000; decide), fun t1 ht1 => ?_⟩
      have s2 := same_new ht1 (.tup [.ref b'])
      refine catA_of (s2 _ _ g1') upd_same (by show 3 + 1 ≤ 100000; decide) fun r2 H6 s6 g6 => ?_
      have s26 := s2.trans s6
      exact ⟨r2, _, rfl, s1.trans s26, b1, b', g6, g2.tk (tk_same (s01.trans s26)), PAt.tk (tk_same s26) h1⟩
    | post j y u =>
      obtain ⟨g1, g2⟩ := g
      have g1' := s01 _ _ g1
      refine ⟨_, rfl, q1, _, _, _, rfl, rfl, SqT.of g1', at0, rfl, _, rfl, itT rfl ?_⟩
      refine ⟨_, rfl, _, rfl, q1, _, rfl, SqT.of g1', fun z => absurd z (by show ¬ (HT.sIx 4 0 none = 0 ∧ HT.sIx 4 4 (some 3) = 4); decide), fun _ p1 hp1 => ?_⟩
      rw [show cutV [V.str "post", .str j, .str y, .ref b1] none (some 3) = [V.str "post", .str j, .str y] from rfl]
      have s2 := same_new hp1 (.tup [V.str "post", .str j, .str y])
      have hp2 : upd H1 p1 (.tup [V.str "post", .str j, .str y]) p1 = some (.tup [V.str "post", .str j, .str y]) := upd_same
      generalize upd H1 p1 (.tup [V.str "post", .str j, .str y]) = H2 at s2 hp2 ⊢
      refine ⟨_, rfl, _, rfl, q1, _, _, _, rfl, rfl, SqT.of (s2 _ _ g1'), at3, sz (by show 2 ≤ 100000; decide), fun t1 ht1 => ?_⟩
      have s3 := same_new ht1 (.tup [.ref b', .ref b1])
      refine catA_of (s3 _ _ hp2) upd_same (by show 3 + 2 ≤ 100000; decide) fun r2 H6 s6 g6 => ?_
      have s26 := s2.trans (s3.trans s6)
      exact ⟨r2, _, rfl, s1.trans s26, b', b1, g6, PAt.tk (tk_same s26) h1, PAt.tk (tk_same (s01.trans s26)) g2⟩
  · rintro σ H1 ⟨b', o2, rfl, s1, h1⟩
    rw [List.length_reverse, hlen, Nat.sub_self, List.drop_zero] at h1
    exact ⟨_, rfl, q H1 b' (s0.trans s1) h1⟩
end
end KB

set_option pp.maxSteps 400
namespace KB
open PySem L2 HT LamX NdefX

/-! ### how the law's turning stands -/
def Bl (ld fr : Addr) (H H' : Hp) : Prop := ∀ b o, b ≠ ld → b ≠ fr → H b = some o → H' b = some o
theorem Bl.trans {ld fr : Addr} {H H1 H2 : Hp} (a : Bl ld fr H H1) (b : Bl ld fr H1 H2) : Bl ld fr H H2 := fun x o n m h => b x o n m (a x o n m h)
theorem bl_same {ld fr : Addr} {H H' : Hp} (s : Same H H') : Bl ld fr H H' := fun x o _ _ h => s x o h
theorem bl_but {ld fr : Addr} {H H' : Hp} (s : But1 fr H H') : Bl ld fr H H' := fun x o _ m h => s x o m h
structure StA (H : Hp) (ld fr : Addr) (ls : List Ld) (c : Nat) : Prop where
  l : ∃ vs, H ld = some (.lst vs) ∧ All2 (LdV H) ls vs
  f : H fr = some (.lst (frL c))
  n : ld ≠ fr
theorem Bl.tk {ld fr : Addr} {H H' : Hp} {ls : List Ld} {c : Nat} (st : StA H ld fr ls c) (b : Bl ld fr H H') : TK H H' := fun x xs h => by
  obtain ⟨vs, h1, _⟩ := st.l
  exact b _ _ (fun z => by rw [z, h1] at h; cases h) (fun z => by rw [z, st.f] at h; cases h) h
theorem But1.tkF {fr : Addr} {H H' : Hp} {xs : List V} (hf : H fr = some (.lst xs)) (b : But1 fr H H') : TK H H' := fun x ys h => b _ _ (fun z => by rw [z, hf] at h; cases h) h
theorem StA.same {H H' : Hp} {ld fr : Addr} {ls : List Ld} {c : Nat} (st : StA H ld fr ls c) (s : Same H H') : StA H' ld fr ls c := by
  obtain ⟨vs, h1, h2⟩ := st.l
  exact ⟨⟨vs, s _ _ h1, h2.imp fun _ _ z => z.tk (tk_same s)⟩, s _ _ st.f, st.n⟩
theorem StA.new {H H' : Hp} {ld fr : Addr} {ls : List Ld} {c c' : Nat} (st : StA H ld fr ls c) (b : But1 fr H H') (h : H' fr = some (.lst (frL c'))) : StA H' ld fr ls c' := by
  obtain ⟨vs, h1, h2⟩ := st.l
  exact ⟨⟨vs, b _ _ st.n h1, h2.imp fun _ _ z => z.tk (But1.tkF st.f b)⟩, h, st.n⟩
theorem StA.put {H : Hp} {ld fr : Addr} {ls : List Ld} {c : Nat} {vs : List V} {l : Ld} {v : V} (st : StA H ld fr ls c) (h1 : H ld = some (.lst vs)) (h2 : All2 (LdV H) ls vs) (hv : LdV H l v) : StA (upd H ld (.lst (vs ++ [v]))) ld fr (ls ++ [l]) c := by
  have tk := tk_put (o := .lst (vs ++ [v])) h1
  exact ⟨⟨_, upd_same, (h2.imp fun _ _ z => z.tk tk).app ⟨hv.tk tk, trivial⟩⟩, by rw [upd_ne (Ne.symm st.n)]; exact st.f, st.n⟩
theorem bl_put {H : Hp} {ld fr : Addr} {o : HO} : Bl ld fr H (upd H ld o) := fun b u n _ h => by rw [upd_ne n]; exact h
theorem LwL.snoc : ∀ {ts : List Tm} {t : Tm} {c la ss c1 lb s c2}, LwL ts c la ss c1 → LwS t c1 lb s c2 → LwL (ts ++ [t]) c (la ++ lb) (ss ++ [s]) c2
  | [], t, c, la, ss, c1, lb, s, c2, h, g => by
    cases h
    have := LwL.cons g LwL.nil
    rwa [List.append_nil] at this
  | u :: ts, t, c, la, ss, c1, lb, s, c2, h, g => by
    cases h with
    | cons h1 h2 =>
      have := LwL.cons h1 (LwL.snoc h2 g)
      rw [← List.append_assoc] at this
      exact this
/-! ### the promises -/
def spMs (n : Nat) : Sp := fun vs H Q _ => ∃ (a ld fr : Addr) (t : Tm) (ls0 : List Ld) (c : Nat), vs = [.ref a, .ref ld, .ref fr] ∧ At H t a ∧ HtLe n t ∧ n ≤ 14 ∧ StA H ld fr ls0 c ∧ ls0.length + cnt t ≤ 40000 ∧ c + 2 * cnt t ≤ 40000 ∧
  ∀ H' b ls s c', LwS t c ls s c' → ls.length ≤ cnt t → c' ≤ c + 2 * cnt t → Bl ld fr H H' → StA H' ld fr (ls0 ++ ls) c' → At H' s b → Q (.ref b) H'
def spUn (n : Nat) : Sp := fun vs H Q _ => ∃ (a ld fr : Addr) (x : Str) (t : Tm) (ls0 : List Ld) (c : Nat), vs = [.ref a, .str x, .ref ld, .ref fr] ∧ At H t a ∧ HtLe n t ∧ n ≤ 14 ∧ StA H ld fr ls0 c ∧ ls0.length + cnt t ≤ 40000 ∧ c + 2 * cnt t ≤ 40001 ∧
  ∀ H' ls c', LwU t x c ls c' → ls.length ≤ cnt t → c' + 1 ≤ c + 2 * cnt t → Bl ld fr H H' → StA H' ld fr (ls0 ++ ls) c' → Q .non H'
def spDo (n : Nat) : Sp := fun vs H Q _ => ∃ (a fr : Addr) (j : Str) (t : Tm) (c : Nat), vs = [.ref a, .str j, .ref fr] ∧ At H t a ∧ HtLe n t ∧ n ≤ 14 ∧ H fr = some (.lst (frL c)) ∧ cnt t ≤ 40000 ∧ c + 2 * cnt t ≤ 40000 ∧
  ∀ H' b ls q c', LwD t j c ls q c' → c' ≤ c + 2 * cnt t → But1 fr H H' → H' fr = some (.lst (frL c')) → PAt H' (putAh ls q) b → Q (.ref b) H'
def SmI (H1 : Hp) (ld fr D : Addr) (ls0 : List Ld) (c : Nat) (ts : List Tm) (j : Nat) (H' : Hp) : Prop :=
  ∃ ls ss c' acc, LwL (ts.take j) c ls ss c' ∧ ls.length ≤ cnts (ts.take j) ∧ c' ≤ c + 2 * cnts (ts.take j) ∧ Bl ld fr H1 H' ∧ StA H' ld fr (ls0 ++ ls) c' ∧ H' D = some (.lst acc) ∧ All2 (RefV H') ss acc
theorem SmI.zero {H1 : Hp} {ld fr D : Addr} {ls0 : List Ld} {c : Nat} {ts : List Tm} (st : StA H1 ld fr ls0 c) (hD : H1 D = none) : SmI H1 ld fr D ls0 c ts 0 (upd H1 D (.lst [])) := by
  have s := same_new hD (.lst [])
  exact ⟨[], [], c, [], by rw [List.take_zero]; exact .nil, Nat.zero_le _, Nat.le_add_right _ _, bl_same s, by rw [List.append_nil]; exact st.same s, upd_same, trivial⟩
theorem SmI.step {n : Nat} {H1 H2 : Hp} {ld fr D : Addr} {ls0 : List Ld} {c : Nat} {ts : List Tm} {j : Nat} {ti : Tm} {bi : Addr} {Q' : VK} (hI : SmI H1 ld fr D ls0 c ts j H2) (st1 : StA H1 ld fr ls0 c) (hD : H1 D = none) (ht : ts[j]? = some ti) (hb : At H1 ti bi) (hc : HtLe n ti) (hn : n ≤ 14) (b1 : ls0.length + cnts ts ≤ 40000) (b2 : c + 2 * cnts ts ≤ 40000) (h4 : ts.length ≤ 4)
    (q : ∀ v H4 acc, H4 D = some (.lst acc) → acc.length < sizeLine → SmI H1 ld fr D ls0 c ts (j + 1) (upd H4 D (.lst (acc ++ [v]))) → Q' v H4) : spMs n [.ref bi, .ref ld, .ref fr] H2 Q' E0 := by
  obtain ⟨ls, ss, c', acc, lw, ll, lc, bl, st, hDD, ka⟩ := hI
  obtain ⟨hj, hj2⟩ := List.getElem?_eq_some_iff.mp ht
  have et : ts.take (j + 1) = ts.take j ++ [ti] := by rw [List.take_succ_eq_append_getElem hj, hj2]
  have ec : cnts (ts.take (j + 1)) = cnts (ts.take j) + cnt ti := by
    rw [et, cnts_app]
    rfl
  have le : cnts (ts.take (j + 1)) ≤ cnts ts := by
    have := cnts_app (ts.take (j + 1)) (ts.drop (j + 1))
    rw [List.take_append_drop] at this
    omega
  obtain ⟨vs1, hl1, _⟩ := st1.l
  have n1 : D ≠ ld := fun z => by rw [z, hl1] at hD; cases hD
  have n2 : D ≠ fr := fun z => by rw [z, st1.f] at hD; cases hD
  refine ⟨bi, ld, fr, ti, ls0 ++ ls, c', rfl, hb.tk (Bl.tk st1 bl), hc, hn, st, by rw [List.length_append]; omega, by omega, fun H' b lb s c2 g1 g2 g3 g4 g5 g6 => ?_⟩
  have hD3 := g4 _ _ n1 n2 hDD
  have tk := Bl.tk st g4
  have tk2 := tk_put (o := .lst (acc ++ [.ref b])) hD3
  have hal := ka.len
  have hss : ss.length ≤ 4 := by
    have h1 : ∀ {ts : List Tm} {c ls ss c'}, LwL ts c ls ss c' → ss.length = ts.length := by
      intro ts
      induction ts with
      | nil => intro c ls ss c' h; cases h; rfl
      | cons t r ih => intro c ls ss c' h; cases h with | cons _ h2 => rw [List.length_cons, List.length_cons, ih h2]
    rw [h1 lw, List.length_take]
    omega
  refine q (.ref b) H' acc hD3 (Nat.lt_of_le_of_lt (m := 4) (by omega) (by decide)) ⟨ls ++ lb, ss ++ [s], c2, acc ++ [.ref b], by rw [et]; exact lw.snoc g1, by rw [List.length_append]; omega, by omega, ?_, ?_, upd_same, ?_⟩
  · exact fun x o m1 m2 h => by
      have z : x ≠ D := fun z => by rw [z, hD] at h; cases h
      rw [upd_ne z]
      exact g4 _ _ m1 m2 (bl _ _ m1 m2 h)
  · rw [← List.append_assoc]
    obtain ⟨vs, h1, h2⟩ := g5.l
    exact ⟨⟨vs, by rw [upd_ne (Ne.symm n1)]; exact h1, h2.imp fun _ _ z => z.tk tk2⟩, by rw [upd_ne (Ne.symm n2)]; exact g5.f, g5.n⟩
  · exact ((ka.imp fun _ _ z => let ⟨p, e, h⟩ := z; ⟨p, e, (h.tk tk).tk tk2⟩)).app ⟨⟨b, rfl, g6.tk tk2⟩, trivial⟩
end KB

set_option pp.maxSteps 400
namespace KB
open PySem L2 HT LamX NdefX

theorem kids_one {H : Hp} {ts : List Tm} {xs : List V} (kk : All2 (RefV H) ts xs) (h : xs.length = 1) : ∃ b1 t1, xs = [.ref b1] ∧ ts = [t1] ∧ At H t1 b1 := by
  match xs, ts, kk, h with
  | [x], [t1], ⟨⟨b1, e1, h1⟩, _⟩, _ => exact ⟨b1, t1, by rw [e1], rfl, h1⟩
theorem kids_two {H : Hp} {ts : List Tm} {xs : List V} (kk : All2 (RefV H) ts xs) (h : xs.length = 2) : ∃ b1 b2 t1 t2, xs = [.ref b1, .ref b2] ∧ ts = [t1, t2] ∧ At H t1 b1 ∧ At H t2 b2 := by
  match xs, ts, kk, h with
  | [x, y], [t1, t2], ⟨⟨b1, e1, h1⟩, ⟨b2, e2, h2⟩, _⟩, _ => exact ⟨b1, b2, t1, t2, by rw [e1, e2], rfl, h1, h2⟩
theorem kids_three {H : Hp} {ts : List Tm} {xs : List V} (kk : All2 (RefV H) ts xs) (h : xs.length = 3) : ∃ b1 b2 b3 t1 t2 t3, xs = [.ref b1, .ref b2, .ref b3] ∧ ts = [t1, t2, t3] ∧ At H t1 b1 ∧ At H t2 b2 ∧ At H t3 b3 := by
  match xs, ts, kk, h with
  | [x, y, z], [t1, t2, t3], ⟨⟨b1, e1, h1⟩, ⟨b2, e2, h2⟩, ⟨b3, e3, h3⟩, _⟩, _ => exact ⟨b1, b2, b3, t1, t2, t3, by rw [e1, e2, e3], rfl, h1, h2, h3⟩
theorem cnt_two {t a b : Tm} (h : kidsT t = [a, b]) : cnt t = 1 + (cnt a + cnt b) := by
  rw [cnt_kids, h, cnts_cons, cnts_cons]
  rfl
theorem cnt_three {t a b d : Tm} (h : kidsT t = [a, b, d]) : cnt t = 1 + (cnt a + (cnt b + cnt d)) := by
  rw [cnt_kids, h, cnts_cons, cnts_cons, cnts_cons]
  rfl
section
variable {P : Program} {w : World} {K : PySem.W.Frag} {mg : Str → Option Value} {base : Heap}
/-! ### _law_made_simple -/
abbrev s_law_made_simple : Stmt := top 44
theorem scLmade_simple : FnScope ["term", "lead", "fresh", "one", "x"] ["term", "lead", "fresh"] (defScope s_law_made_simple) := ⟨rfl, rfl, rfl, by decide +kernel, rfl, by decide +kernel, by decide +kernel⟩
theorem ok_ms {n : Nat} {f f1 f2 f3 : Addr} {fd d1 d2 d3 : FuncData} (F : Fun K "_law_made_simple" "_law_made_simple" s_law_made_simple f fd) (G_law_made_simple : FnOk P w K mg base CX0 (2 * n + 17) f fd ["term", "lead", "fresh"] (spMs n)) (R_law_made_simple : Ref K mg "_law_made_simple" f fd ["term", "lead", "fresh"])
    (G_is : FnOk P w K mg base CX0 15 f1 d1 ["term"] (spSimB 14)) (R_law_is_simple_term : Ref K mg "_law_is_simple_term" f1 d1 ["term"]) (G_law_new : FnOk P w K mg base CX0 1 f2 d2 ["fresh"] spNewL) (R_law_new : Ref K mg "_law_new" f2 d2 ["fresh"])
    (G_law_under : FnOk P w K mg base CX0 (2 * n + 18) f3 d3 ["term", "x", "lead", "fresh"] (spUn (n + 1))) (R_law_under : Ref K mg "_law_under" f3 d3 ["term", "x", "lead", "fresh"]) : FnOk P w K mg base CX0 (2 * n + 19) f fd ["term", "lead", "fresh"] (spMs (n + 1)) := by
  refine F.ok scLmade_simple (fun vs H Q E h => ?_) (fun cdv A outer s H vs Q E hr h => ?_)
  · obtain ⟨a, ld, fr, t, ls0, c, rfl, _⟩ := h
    rfl
  obtain ⟨a, ld, fr, t, ls0, c, rfl, hA, hc, hn, st, b1, b2, q⟩ := h
  refine ⟨_, (pss_cons (ps_if (pt_val (pe_call G_is (hr.mono (by omega)) rfl R_law_is_simple_term.m R_law_is_simple_term.k R_law_is_simple_term.b .nil pass0 (pa_cons (pv 0) pa_nil))) (pss_one (ps_ret (pv 0))) pss_nil)
    (pss_cons (ps_if (pt_cmpR op_in_seq (pe_ix ix_tup (pv 0) pe_int (fun _ _ => rfl)) (pe_tup (pa_cons pe_str (pa_cons pe_str pa_nil))) rfl) (pss_cons (ps_set (i := 3) scLmade_simple.nd rfl (Or.inl rfl) (pe_call G_law_made_simple (hr.mono (by omega)) rfl R_law_made_simple.m R_law_made_simple.k R_law_made_simple.b .nil pass0 (pa_cons (pe_ix ix_tup (pv 0) pe_int (fun _ _ => rfl)) (pa_cons (pv 1) (pa_cons (pv 2) pa_nil)))))
    (pss_one (ps_ret (pe_tup (pa_cons (pe_ix ix_tup (pv 0) pe_int (fun _ _ => rfl)) (pa_cons (pv 3) (pa_cons (pe_call G_law_made_simple (hr.mono (by omega)) rfl R_law_made_simple.m R_law_made_simple.k R_law_made_simple.b .nil pass0 (pa_cons (pe_ix ix_tup (pv 0) pe_int (fun _ _ => rfl)) (pa_cons (pv 1) (pa_cons (pv 2) pa_nil)))) pa_nil))))))) pss_nil)
    (pss_cons (ps_if (pt_cmpR op_eq (pe_ix ix_tup (pv 0) pe_int (fun _ _ => rfl)) pe_str (nomark _)) (pss_cons (ps_expr (pe_call G_law_under (hr.mono (by omega)) rfl R_law_under.m R_law_under.k R_law_under.b .nil pass0 (pa_cons (pe_ix ix_tup (pv 0) pe_int (fun _ _ => rfl)) (pa_cons (pe_ix ix_tup (pv 0) pe_int (fun _ _ => rfl)) (pa_cons (pv 1) (pa_cons (pv 2) pa_nil))))))
    (pss_one (ps_ret (pe_call G_law_made_simple (hr.mono (by omega)) rfl R_law_made_simple.m R_law_made_simple.k R_law_made_simple.b .nil pass0 (pa_cons (pe_ix ix_tup (pv 0) pe_int (fun _ _ => rfl)) (pa_cons (pv 1) (pa_cons (pv 2) pa_nil))))))) pss_nil)
    (pss_cons (ps_set (i := 4) scLmade_simple.nd rfl (Or.inl rfl) (pe_call G_law_new (hr.mono (by omega)) rfl R_law_new.m R_law_new.k R_law_new.b .nil pass0 (pa_cons (pv 2) pa_nil)))
    (pss_cons (ps_expr (pe_call G_law_under (hr.mono (by omega)) rfl R_law_under.m R_law_under.k R_law_under.b .nil pass0 (pa_cons (pv 0) (pa_cons (pv 4) (pa_cons (pv 1) (pa_cons (pv 2) pa_nil))))))
    (pss_one (ps_ret (pe_tup (pa_cons pe_str (pa_cons (pv 4) pa_nil)))))))))), ?_⟩
  -- simple
  refine ⟨_, rfl, a, t, rfl, hA, hc.le (by omega), fun H1 s1 => ⟨_, rfl, ?_⟩⟩
  have hA1 := hA.tk (tk_same s1)
  have st1 := st.same s1
  by_cases hs : simple t = true
  · refine itT hs ⟨_, rfl, q H1 a [] t c (.simple hs) (Nat.zero_le _) (Nat.le_add_right _ _) (bl_same s1) (by rw [List.append_nil]; exact st1) hA1⟩
  have hs : simple t = false := by simpa using hs
  refine itF hs ?_
  obtain ⟨xs, l, kk⟩ := At.kids hA1
  obtain ⟨r, hd⟩ := l.head
  refine ⟨_, rfl, a, _, _, _, rfl, rfl, SqT.of hd, at0, sz (by show 2 ≤ 100000; decide), fun t0 ht0 => ?_⟩
  have s2 := same_new ht0 (.tup [.str "plus", .str "less"])
  refine ⟨t0, _, rfl, .inr (SqT.of upd_same), rfl, rfl, _, rfl, ?_⟩
  have st2 := st1.same s2
  have s12 := s1.trans s2
  generalize upd H1 t0 (.tup [.str "plus", .str "less"]) = H2 at s2 st2 s12 ⊢
  have leaf : flatHd (hdT t) = true → xs.length = 0 → False := fun h1 h0 => by
    have hk : kidsT t = [] := by
      have := kk.len
      rw [h0] at this
      exact List.length_eq_zero_iff.mp this.symm
    rw [simple_leaf h1 hk] at hs
    cases hs
  cases hh : hdT t with
  | num z =>
    rw [hh] at l
    exact (leaf (by rw [hh]; rfl) (by rw [l.1]; rfl)).elim
  | nam z =>
    rw [hh] at l
    exact (leaf (by rw [hh]; rfl) (by rw [l.1]; rfl)).elim
  | plus =>
    rw [hh] at l
    obtain ⟨bb1, bb2, t1, t2, ex, ek, h1, h2⟩ := kids_two kk l.1
    rw [ex] at l
    have ha := s2 _ _ l.2
    have m1 : t1 ∈ kidsT t := by rw [ek]; simp
    have m2 : t2 ∈ kidsT t := by rw [ek]; simp
    have ec := cnt_two ek
    refine itT rfl ?_
    refine ⟨_, rfl, a, _, _, _, rfl, rfl, SqT.of ha, at1, _, rfl, _, rfl, bb1, ld, fr, t1, ls0, c, rfl, h1.tk (tk_same s2), hc.kid m1, by omega, st2, by omega, by omega, fun H3 e1 la sa c1 g1 g2 g3 g4 g5 g6 => ?_⟩
    have tk3 := Bl.tk st2 g4
    have ha3 := tk3 _ _ ha
    refine ⟨_, rfl, a, _, _, _, rfl, rfl, SqT.of ha3, at0, _, rfl, _, rfl, a, _, _, _, rfl, rfl, SqT.of ha3, at2, _, rfl, _, rfl, bb2, ld, fr, t2, ls0 ++ la, c1, rfl, (h2.tk (tk_same s2)).tk tk3, hc.kid m2, by omega, g5, by rw [List.length_append]; omega, by omega, fun H4 e2 lb sb c2 k1 k2 k3 k4 k5 k6 => ?_⟩
    have tk4 := Bl.tk g5 k4
    refine ⟨sz (by show 3 ≤ 100000; decide), fun tt htt => ?_⟩
    have s5 := same_new htt (.tup [V.str "plus", .ref e1, .ref e2])
    refine q _ tt (la ++ lb) (mkL (hdT t) [sa, sb]) c2 (.op hs (.inl hh) ek g1 k1) (by rw [List.length_append]; omega) (by omega) ((bl_same s12).trans (g4.trans (k4.trans (bl_same s5)))) (by rw [← List.append_assoc]; exact k5.same s5) ?_
    rw [hh]
    exact at_mkL (h := .plus) (vs := [.ref e1, .ref e2]) ⟨rfl, upd_same⟩ (N.stk_of ⟨⟨e1, rfl, (g6.tk tk4).tk (tk_same s5)⟩, ⟨e2, rfl, k6.tk (tk_same s5)⟩, trivial⟩)
  | less =>
    rw [hh] at l
    obtain ⟨bb1, bb2, t1, t2, ex, ek, h1, h2⟩ := kids_two kk l.1
    rw [ex] at l
    have ha := s2 _ _ l.2
    have m1 : t1 ∈ kidsT t := by rw [ek]; simp
    have m2 : t2 ∈ kidsT t := by rw [ek]; simp
    have ec := cnt_two ek
    refine itT rfl ?_
    refine ⟨_, rfl, a, _, _, _, rfl, rfl, SqT.of ha, at1, _, rfl, _, rfl, bb1, ld, fr, t1, ls0, c, rfl, h1.tk (tk_same s2), hc.kid m1, by omega, st2, by omega, by omega, fun H3 e1 la sa c1 g1 g2 g3 g4 g5 g6 => ?_⟩
    have tk3 := Bl.tk st2 g4
    have ha3 := tk3 _ _ ha
    refine ⟨_, rfl, a, _, _, _, rfl, rfl, SqT.of ha3, at0, _, rfl, _, rfl, a, _, _, _, rfl, rfl, SqT.of ha3, at2, _, rfl, _, rfl, bb2, ld, fr, t2, ls0 ++ la, c1, rfl, (h2.tk (tk_same s2)).tk tk3, hc.kid m2, by omega, g5, by rw [List.length_append]; omega, by omega, fun H4 e2 lb sb c2 k1 k2 k3 k4 k5 k6 => ?_⟩
    have tk4 := Bl.tk g5 k4
    refine ⟨sz (by show 3 ≤ 100000; decide), fun tt htt => ?_⟩
    have s5 := same_new htt (.tup [V.str "less", .ref e1, .ref e2])
    refine q _ tt (la ++ lb) (mkL (hdT t) [sa, sb]) c2 (.op hs (.inr hh) ek g1 k1) (by rw [List.length_append]; omega) (by omega) ((bl_same s12).trans (g4.trans (k4.trans (bl_same s5)))) (by rw [← List.append_assoc]; exact k5.same s5) ?_
    rw [hh]
    exact at_mkL (h := .less) (vs := [.ref e1, .ref e2]) ⟨rfl, upd_same⟩ (N.stk_of ⟨⟨e1, rfl, (g6.tk tk4).tk (tk_same s5)⟩, ⟨e2, rfl, k6.tk (tk_same s5)⟩, trivial⟩)
  | lett y =>
    rw [hh] at l
    obtain ⟨bb1, bb2, t1, t2, ex, ek, h1, h2⟩ := kids_two kk l.1
    rw [ex] at l
    have ha := s2 _ _ l.2
    have m1 : t1 ∈ kidsT t := by rw [ek]; simp
    have m2 : t2 ∈ kidsT t := by rw [ek]; simp
    have ec := cnt_two ek
    refine itF rfl ⟨_, rfl, a, _, _, _, rfl, rfl, SqT.of ha, at0, rfl, _, rfl, itT rfl ?_⟩
    refine ⟨_, rfl, a, _, _, _, rfl, rfl, SqT.of ha, at2, _, rfl, a, _, _, _, rfl, rfl, SqT.of ha, at1, _, rfl, _, rfl, bb1, ld, fr, y, t1, ls0, c, rfl, h1.tk (tk_same s2), (hc.kid m1).le (by omega), hn, st2, by omega, by omega, fun H3 la c1 g1 g2 g3 g4 g5 => ?_⟩
    have tk3 := Bl.tk st2 g4
    have ha3 := tk3 _ _ ha
    refine ⟨_, rfl, a, _, _, _, rfl, rfl, SqT.of ha3, at3, _, rfl, _, rfl, bb2, ld, fr, t2, ls0 ++ la, c1, rfl, (h2.tk (tk_same s2)).tk tk3, hc.kid m2, by omega, g5, by rw [List.length_append]; omega, by omega, fun H4 e2 lb sb c2 k1 k2 k3 k4 k5 k6 => ?_⟩
    exact q H4 e2 (la ++ lb) sb c2 (.lett hh ek g1 k1) (by rw [List.length_append]; omega) (by omega) ((bl_same s12).trans (g4.trans k4)) (by rw [← List.append_assoc]; exact k5) k6
  | ask g =>
    rw [hh] at hd
    have hd2 := s2 _ _ hd
    refine itF rfl ⟨_, rfl, a, _, _, _, rfl, rfl, SqT.of hd2, at0, rfl, _, rfl, itF rfl ?_⟩
    refine ⟨_, rfl, fr, c, rfl, st2.f, by omega, fun H3 b3 f3 => ?_⟩
    have tk3 := But1.tkF st2.f b3
    refine ⟨_, rfl, _, rfl, _, rfl, _, rfl, a, ld, fr, sW c, t, ls0, c + 1, rfl, (hA1.tk (tk_same s2)).tk tk3, hc, hn, st2.new b3 f3, b1, by omega, fun H4 la c1 g1 g2 g3 g4 g5 => ?_⟩
    refine ⟨_, rfl, sz (by show 2 ≤ 100000; decide), fun tt htt => ?_⟩
    have s5 := same_new htt (.tup [V.str "name", .str (sW c)])
    exact q _ tt la (mkL (.nam (sW c)) []) c1 (.word (by rw [hh]; rfl) g1) g2 (by omega) ((bl_same s12).trans ((bl_but b3).trans (g4.trans (bl_same s5)))) (g5.same s5) (at_mkL (h := .nam (sW c)) (vs := []) ⟨rfl, upd_same⟩ trivial)
  | iff =>
    rw [hh] at hd
    have hd2 := s2 _ _ hd
    refine itF rfl ⟨_, rfl, a, _, _, _, rfl, rfl, SqT.of hd2, at0, rfl, _, rfl, itF rfl ?_⟩
    refine ⟨_, rfl, fr, c, rfl, st2.f, by omega, fun H3 b3 f3 => ?_⟩
    have tk3 := But1.tkF st2.f b3
    refine ⟨_, rfl, _, rfl, _, rfl, _, rfl, a, ld, fr, sW c, t, ls0, c + 1, rfl, (hA1.tk (tk_same s2)).tk tk3, hc, hn, st2.new b3 f3, b1, by omega, fun H4 la c1 g1 g2 g3 g4 g5 => ?_⟩
    refine ⟨_, rfl, sz (by show 2 ≤ 100000; decide), fun tt htt => ?_⟩
    have s5 := same_new htt (.tup [V.str "name", .str (sW c)])
    exact q _ tt la (mkL (.nam (sW c)) []) c1 (.word (by rw [hh]; rfl) g1) g2 (by omega) ((bl_same s12).trans ((bl_but b3).trans (g4.trans (bl_same s5)))) (g5.same s5) (at_mkL (h := .nam (sW c)) (vs := []) ⟨rfl, upd_same⟩ trivial)
  | tell =>
    rw [hh] at hd
    have hd2 := s2 _ _ hd
    refine itF rfl ⟨_, rfl, a, _, _, _, rfl, rfl, SqT.of hd2, at0, rfl, _, rfl, itF rfl ?_⟩
    refine ⟨_, rfl, fr, c, rfl, st2.f, by omega, fun H3 b3 f3 => ?_⟩
    have tk3 := But1.tkF st2.f b3
    refine ⟨_, rfl, _, rfl, _, rfl, _, rfl, a, ld, fr, sW c, t, ls0, c + 1, rfl, (hA1.tk (tk_same s2)).tk tk3, hc, hn, st2.new b3 f3, b1, by omega, fun H4 la c1 g1 g2 g3 g4 g5 => ?_⟩
    refine ⟨_, rfl, sz (by show 2 ≤ 100000; decide), fun tt htt => ?_⟩
    have s5 := same_new htt (.tup [V.str "name", .str (sW c)])
    exact q _ tt la (mkL (.nam (sW c)) []) c1 (.word (by rw [hh]; rfl) g1) g2 (by omega) ((bl_same s12).trans ((bl_but b3).trans (g4.trans (bl_same s5)))) (g5.same s5) (at_mkL (h := .nam (sW c)) (vs := []) ⟨rfl, upd_same⟩ trivial)
end
end KB

set_option pp.maxSteps 400
namespace KB
open PySem L2 HT LamX NdefX

theorem hs_ifZ {h : Hd} (e : hs h = "if") : h = .iff := by
  cases h with
  | iff => rfl
  | num z => exact absurd (show ("number" : Str) = "if" from e) (by decide)
  | nam z => exact absurd (show ("name" : Str) = "if" from e) (by decide)
  | plus => exact absurd (show ("plus" : Str) = "if" from e) (by decide)
  | less => exact absurd (show ("less" : Str) = "if" from e) (by decide)
  | tell => exact absurd (show ("tell" : Str) = "if" from e) (by decide)
  | ask z => exact absurd (show ("ask" : Str) = "if" from e) (by decide)
  | lett z => exact absurd (show ("let" : Str) = "if" from e) (by decide)
theorem hs_letZ {h : Hd} (e : hs h = "let") : ∃ x, h = .lett x := by
  cases h with
  | lett z => exact ⟨z, rfl⟩
  | num z => exact absurd (show ("number" : Str) = "let" from e) (by decide)
  | nam z => exact absurd (show ("name" : Str) = "let" from e) (by decide)
  | plus => exact absurd (show ("plus" : Str) = "let" from e) (by decide)
  | less => exact absurd (show ("less" : Str) = "let" from e) (by decide)
  | tell => exact absurd (show ("tell" : Str) = "let" from e) (by decide)
  | ask z => exact absurd (show ("ask" : Str) = "let" from e) (by decide)
  | iff => exact absurd (show ("if" : Str) = "let" from e) (by decide)
theorem tk_trans {H H1 H2 : Hp} (a : TK H H1) (b : TK H1 H2) : TK H H2 := fun x xs h => b x xs (a x xs h)
theorem refV_tk {H H' : Hp} (k : TK H H') {t : Tm} {v : V} (h : RefV H t v) : RefV H' t v := let ⟨p, e, g⟩ := h; ⟨p, e, g.tk k⟩
theorem put_two : ∀ (la lb : List Ld) (q : Pt), putAh (la ++ lb) q = putAh la (putAh lb q)
  | [], _, _ => rfl
  | .lett x s :: r, lb, q => congrArg (Pt.lett x s) (put_two r lb q)
  | .tell x s :: r, lb, q => congrArg (Pt.tell x s) (put_two r lb q)
  | .post j x u :: r, lb, q => congrArg (fun z => Pt.post j x z u) (put_two r lb q)
theorem LwL.one {t : Tm} {c la ss c'} (h : LwL [t] c la ss c') : ∃ s, ss = [s] ∧ LwS t c la s c' := by
  cases h with
  | cons h1 h2 =>
    cases h2
    rw [List.append_nil]
    exact ⟨_, rfl, h1⟩
theorem stA_len {H : Hp} {ld fr : Addr} {ls : List Ld} {c : Nat} {vs : List V} (h : All2 (LdV H) ls vs) (b : ls.length ≤ 40000) : vs.length < sizeLine := Nat.lt_of_le_of_lt (m := 40000) (by rw [h.len]; exact b) (by decide)
section
variable {P : Program} {w : World} {K : PySem.W.Frag} {mg : Str → Option Value} {base : Heap}
/-! ### _law_under -/
abbrev s_law_under : Stmt := top 43
theorem scLunder : FnScope ["term", "x", "lead", "fresh", "choice", "hand", "one", "part", "some"] ["term", "x", "lead", "fresh"] (defScope s_law_under) := ⟨rfl, rfl, rfl, by decide +kernel, rfl, by decide +kernel, by decide +kernel⟩
theorem ok_un (T : Txt K mg) {n : Nat} {f f1 f2 f3 f4 f5 : Addr} {fd d1 d2 d3 d4 d5 : FuncData} (F : Fun K "_law_under" "_law_under" s_law_under f fd) (G_law_under : FnOk P w K mg base CX0 (2 * n + 16) f fd ["term", "x", "lead", "fresh"] (spUn n)) (R_law_under : Ref K mg "_law_under" f fd ["term", "x", "lead", "fresh"])
    (G_is : FnOk P w K mg base CX0 15 f1 d1 ["term"] (spSimB 14)) (R_law_is_simple_term : Ref K mg "_law_is_simple_term" f1 d1 ["term"]) (G_law_new : FnOk P w K mg base CX0 1 f2 d2 ["fresh"] spNewL) (R_law_new : Ref K mg "_law_new" f2 d2 ["fresh"]) (G_law_parts : FnOk P w K mg base CX0 1 f5 d5 ["term"] (spKids TrT)) (R_law_parts : Ref K mg "_law_parts" f5 d5 ["term"])
    (G_law_made_simple : FnOk P w K mg base CX0 (2 * n + 17) f3 d3 ["term", "lead", "fresh"] (spMs n)) (R_law_made_simple : Ref K mg "_law_made_simple" f3 d3 ["term", "lead", "fresh"])
    (G_law_done_to : FnOk P w K mg base CX0 (2 * n + 16) f4 d4 ["term", "hand", "fresh"] (spDo n)) (R_law_done_to : Ref K mg "_law_done_to" f4 d4 ["term", "hand", "fresh"]) : FnOk P w K mg base CX0 (2 * n + 18) f fd ["term", "x", "lead", "fresh"] (spUn (n + 1)) := by
  refine F.ok scLunder (fun vs H Q E h => ?_) (fun cdv A outer s H vs Q E hr h => ?_)
  · obtain ⟨a, ld, fr, x, t, ls0, c, rfl, _⟩ := h
    rfl
  obtain ⟨a, ld, fr, x, t, ls0, c, rfl, hA, hc, hn, st, b1, b2, q⟩ := h
  refine ⟨_, (pss_one (ps_if (pt_cmpR op_eq (pe_ix ix_tup (pv 0) pe_int (fun _ _ => rfl)) pe_str (nomark _)) (pss_cons (ps_expr (pe_call G_law_under (hr.mono (by omega)) rfl R_law_under.m R_law_under.k R_law_under.b .nil pass0 (pa_cons (pe_ix ix_tup (pv 0) pe_int (fun _ _ => rfl)) (pa_cons (pe_ix ix_tup (pv 0) pe_int (fun _ _ => rfl)) (pa_cons (pv 2) (pa_cons (pv 3) pa_nil))))))
    (pss_one (ps_expr (pe_call G_law_under (hr.mono (by omega)) rfl R_law_under.m R_law_under.k R_law_under.b .nil pass0 (pa_cons (pe_ix ix_tup (pv 0) pe_int (fun _ _ => rfl)) (pa_cons (pv 1) (pa_cons (pv 2) (pa_cons (pv 3) pa_nil)))))))) (pss_one (ps_if (pt_cmpR op_eq (pe_ix ix_tup (pv 0) pe_int (fun _ _ => rfl)) pe_str (nomark _)) (pss_cons (ps_set (i := 4) scLunder.nd rfl (Or.inl rfl) (pe_call G_law_made_simple (hr.mono (by omega)) rfl R_law_made_simple.m R_law_made_simple.k R_law_made_simple.b .nil pass0 (pa_cons (pe_ix ix_tup (pv 0) pe_int (fun _ _ => rfl)) (pa_cons (pv 2) (pa_cons (pv 3) pa_nil)))))
    (pss_cons (ps_set (i := 5) scLunder.nd rfl (Or.inl rfl) (pe_call G_law_new (hr.mono (by omega)) rfl R_law_new.m R_law_new.k R_law_new.b .nil pass0 (pa_cons (pv 3) pa_nil)))
    (pss_cons (ps_set (i := 6) scLunder.nd rfl (Or.inl rfl) (pe_call G_law_done_to (hr.mono (by omega)) rfl R_law_done_to.m R_law_done_to.k R_law_done_to.b .nil pass0 (pa_cons (pe_ix ix_tup (pv 0) pe_int (fun _ _ => rfl)) (pa_cons (pv 5) (pa_cons (pv 3) pa_nil)))))
    (pss_cons (ps_set (i := 7) scLunder.nd rfl (Or.inl rfl) (pe_tup (pa_cons pe_str (pa_cons (pv 4) (pa_cons (pv 6) (pa_cons (pe_call G_law_done_to (hr.mono (by omega)) rfl R_law_done_to.m R_law_done_to.k R_law_done_to.b .nil pass0 (pa_cons (pe_ix ix_tup (pv 0) pe_int (fun _ _ => rfl)) (pa_cons (pv 5) (pa_cons (pv 3) pa_nil)))) pa_nil))))))
    (pss_one (ps_expr (pe_bm PySem.F.plainAttrs_list PySem.F.slot_list_append PySem.F.type_list_append mt_append (pv 2) (pa_cons (pe_tup (pa_cons pe_str (pa_cons (pv 5) (pa_cons (pv 1) (pa_cons (pv 7) pa_nil))))) pa_nil)))))))) (pss_one (ps_if (pt_val (pe_call G_is (hr.mono (by omega)) rfl R_law_is_simple_term.m R_law_is_simple_term.k R_law_is_simple_term.b .nil pass0 (pa_cons (pv 0) pa_nil))) (pss_one (ps_expr (pe_bm PySem.F.plainAttrs_list PySem.F.slot_list_append PySem.F.type_list_append mt_append (pv 2) (pa_cons (pe_tup (pa_cons pe_str (pa_cons (pv 1) (pa_cons (pv 0) pa_nil)))) pa_nil)))) (pss_cons (ps_set (i := 8) scLunder.nd rfl (Or.inl rfl) (pe_callTy call_tuple_of (by rfl) T.m_tuple (by decide +kernel) (pa_cons (pe_lc (own := [("part", 7)]) (g := gName 7) (tt := tYes) (te := tCall (spMs n) [] E0 (tCons (tVar 7) (tCons (tVar 2) (tCons (tVar 3) tNil)))) (by rfl) scLunder.nd (pi_tup (pe_call G_law_parts (hr.mono (by omega)) rfl R_law_parts.m R_law_parts.k R_law_parts.b .nil pass0 (pa_cons (pv 0) pa_nil))) (blkOk_by (own := [("part", 7)]) (N := ["term", "x", "lead", "fresh", "choice", "hand", "one", "part", "some"]) (sc := defScope s_law_under) (by decide +kernel)) (fun _ _ _ _ _ => (pg_name (i := 7) scLunder.nd rfl (Or.inl rfl))) (fun _ _ _ _ _ => pts_nil) (fun _ _ _ _ _ => (pe_call G_law_made_simple (hr.mono (by omega)) rfl R_law_made_simple.m R_law_made_simple.k R_law_made_simple.b .nil pass0 (pa_cons (pv 7) (pa_cons (pv 2) (pa_cons (pv 3) pa_nil)))))) pa_nil)))
    (pss_one (ps_if (pt_cmpR op_eq (pe_ix ix_tup (pv 0) pe_int (fun _ _ => rfl)) pe_str (nomark _)) (pss_cons (ps_set (i := 5) scLunder.nd rfl (Or.inl rfl) (pe_call G_law_new (hr.mono (by omega)) rfl R_law_new.m R_law_new.k R_law_new.b .nil pass0 (pa_cons (pv 3) pa_nil)))
    (pss_one (ps_expr (pe_bm PySem.F.plainAttrs_list PySem.F.slot_list_append PySem.F.type_list_append mt_append (pv 2) (pa_cons (pe_tup (pa_cons pe_str (pa_cons (pv 5) (pa_cons (pv 1) (pa_cons (pe_tup (pa_cons pe_str (pa_cons (pe_ix ix_tup (pv 0) pe_int (fun _ _ => rfl)) (pa_cons (pv 8) (pa_cons (pv 5) pa_nil))))) pa_nil))))) pa_nil))))) (pss_one (ps_if (pt_cmpR op_eq (pe_ix ix_tup (pv 0) pe_int (fun _ _ => rfl)) pe_str (nomark _)) (pss_one (ps_expr (pe_bm PySem.F.plainAttrs_list PySem.F.slot_list_append PySem.F.type_list_append mt_append (pv 2) (pa_cons (pe_tup (pa_cons pe_str (pa_cons (pv 1) (pa_cons (pe_ix ix_tup (pv 8) pe_int (fun _ _ => rfl)) pa_nil)))) pa_nil)))) (pss_one (ps_expr (pe_bm PySem.F.plainAttrs_list PySem.F.slot_list_append PySem.F.type_list_append mt_append (pv 2) (pa_cons (pe_tup (pa_cons pe_str (pa_cons (pv 1) (pa_cons (pe_op op_catA (pe_slice sl_tupA (pv 0) po_none (po_some pe_int)) (pv 8)) pa_nil)))) pa_nil))))))))))))))), ?_⟩
  obtain ⟨xs, l, kk⟩ := At.kids hA
  obtain ⟨r, hd⟩ := l.head
  have hk4 : (kidsT t).length ≤ 4 := by rw [← kk.len]; exact N.lay_len l
  have ek0 := cnt_kids t
  have put : ∀ {H7 : Hp} {ls : List Ld} {c' : Nat} {ld1 : Ld} {v : V}, StA H7 ld fr (ls0 ++ ls) c' → ls.length + 1 ≤ cnt t → LdV H7 ld1 v → Bl ld fr H H7 → LwU t x c (ls ++ [ld1]) c' → c' + 1 ≤ c + 2 * cnt t → ∃ vs, H7 ld = some (.lst vs) ∧ vs.length < sizeLine ∧ Q .non (upd H7 ld (.lst (vs ++ [v]))) := fun {H7 ls c' ld1 v} st7 hl hv bl lw hc' => by
    obtain ⟨vs, e1, e2⟩ := st7.l
    refine ⟨vs, e1, stA_len (ld := ld) (fr := fr) (c := c') e2 (by rw [List.length_append]; omega), ?_⟩
    exact q _ (ls ++ [ld1]) c' lw (by rw [List.length_append]; exact hl) hc' (bl.trans bl_put) (by rw [← List.append_assoc]; exact st7.put e1 e2 hv)
  refine ⟨_, rfl, a, _, _, _, rfl, rfl, SqT.of hd, at0, rfl, _, rfl, ?_⟩
  by_cases hlt : ∃ y, hdT t = .lett y
  · obtain ⟨y, hh⟩ := hlt
    rw [hh] at l ⊢
    obtain ⟨bb1, bb2, t1, t2, ex, ek, h1, h2⟩ := kids_two kk l.1
    rw [ex] at l
    have ha := l.2
    have m1 : t1 ∈ kidsT t := by rw [ek]; simp
    have m2 : t2 ∈ kidsT t := by rw [ek]; simp
    have ec := cnt_two ek
    refine itT rfl ?_
    refine ⟨_, rfl, a, _, _, _, rfl, rfl, SqT.of ha, at2, _, rfl, a, _, _, _, rfl, rfl, SqT.of ha, at1, _, rfl, _, rfl, bb1, ld, fr, y, t1, ls0, c, rfl, h1, hc.kid m1, by omega, st, by omega, by omega, fun H3 la c1 g1 g2 g3 g4 g5 => ?_⟩
    have tk3 := Bl.tk st g4
    have ha3 := tk3 _ _ ha
    refine ⟨_, rfl, a, _, _, _, rfl, rfl, SqT.of ha3, at3, _, rfl, _, rfl, _, rfl, bb2, ld, fr, x, t2, ls0 ++ la, c1, rfl, h2.tk tk3, hc.kid m2, by omega, g5, by rw [List.length_append]; omega, by omega, fun H4 lb c2 k1 k2 k3 k4 k5 => ?_⟩
    exact q H4 (la ++ lb) c2 (.lett hh ek g1 k1) (by rw [List.length_append]; omega) (by omega) (g4.trans k4) (by rw [← List.append_assoc]; exact k5)
  refine itF (decide_eq_false fun z => hlt (hs_letZ (V.str.inj z))) ?_
  refine ⟨_, rfl, a, _, _, _, rfl, rfl, SqT.of hd, at0, rfl, _, rfl, ?_⟩
  by_cases hif : hdT t = .iff
  · rw [hif] at l ⊢
    obtain ⟨bb1, bb2, bb3, t1, t2, t3, ex, ek, h1, h2, h3⟩ := kids_three kk l.1
    rw [ex] at l
    have ha := l.2
    have m1 : t1 ∈ kidsT t := by rw [ek]; simp
    have m2 : t2 ∈ kidsT t := by rw [ek]; simp
    have m3 : t3 ∈ kidsT t := by rw [ek]; simp
    have ec := cnt_three ek
    refine itT rfl ?_
    refine ⟨_, rfl, a, _, _, _, rfl, rfl, SqT.of ha, at1, _, rfl, _, rfl, bb1, ld, fr, t1, ls0, c, rfl, h1, hc.kid m1, by omega, st, by omega, by omega, fun H3 e1 la sa c1 g1 g2 g3 g4 g5 g6 => ?_⟩
    have tk3 := Bl.tk st g4
    refine ⟨_, rfl, fr, c1, rfl, g5.f, by omega, fun H4 b4 f4 => ?_⟩
    have tk4 := But1.tkF g5.f b4
    have st4 := g5.new b4 f4
    have ha4 := tk4 _ _ (tk3 _ _ ha)
    refine ⟨_, rfl, a, _, _, _, rfl, rfl, SqT.of ha4, at2, _, rfl, _, rfl, bb2, fr, sW c1, t2, c1 + 1, rfl, (h2.tk tk3).tk tk4, hc.kid m2, by omega, f4, by omega, by omega, fun H5 e2 lb qb c2 k1 k2 k3 k4 k5 => ?_⟩
    have tk5 := But1.tkF f4 k3
    have st5 := st4.new k3 k4
    have ha5 := tk5 _ _ ha4
    refine ⟨_, rfl, _, rfl, _, rfl, a, _, _, _, rfl, rfl, SqT.of ha5, at3, _, rfl, _, rfl, bb3, fr, sW c1, t3, c2, rfl, ((h3.tk tk3).tk tk4).tk tk5, hc.kid m3, by omega, k4, by omega, by omega, fun H6 e3 lc qc c3 j1 j2 j3 j4 j5 => ?_⟩
    have tk6 := But1.tkF k4 j3
    have st6 := st5.new j3 j4
    refine ⟨sz (by show 4 ≤ 100000; decide), fun p1 hp1 => ?_⟩
    have s7 := same_new hp1 (.tup [V.str "if", .ref e1, .ref e2, .ref e3])
    have h7 : upd H6 p1 (.tup [V.str "if", .ref e1, .ref e2, .ref e3]) p1 = some (.tup [V.str "if", .ref e1, .ref e2, .ref e3]) := upd_same
    have st7 := st6.same s7
    generalize upd H6 p1 (.tup [V.str "if", .ref e1, .ref e2, .ref e3]) = H7 at s7 h7 st7 ⊢
    obtain ⟨vs7, hl7, _⟩ := st7.l
    refine ⟨_, rfl, .inl ⟨rfl, _, SqL.of hl7⟩, _, rfl, _, rfl, _, rfl, sz (by show 4 ≤ 100000; decide), fun p2 hp2 => ?_⟩
    have s8 := same_new hp2 (.tup [V.str "post", .str (sW c1), .str x, .ref p1])
    have h8 : upd H7 p2 (.tup [V.str "post", .str (sW c1), .str x, .ref p1]) p2 = some (.tup [V.str "post", .str (sW c1), .str x, .ref p1]) := upd_same
    have st8 := st7.same s8
    generalize upd H7 p2 (.tup [V.str "post", .str (sW c1), .str x, .ref p1]) = H8 at s8 h8 st8 ⊢
    have s68 := s7.trans s8
    have blA : Bl ld fr H H8 := g4.trans ((bl_but b4).trans ((bl_but k3).trans ((bl_but j3).trans (bl_same s68))))
    have hv : LdV H8 (.post (sW c1) x (.iff sa (putAh lb qb) (putAh lc qc))) (.ref p2) := ⟨p2, p1, rfl, h8, e1, e2, e3, s8 _ _ h7, (((g6.tk tk4).tk tk5).tk tk6).tk (tk_same s68), PAt.tk (tk_same s68) (PAt.tk tk6 k5), PAt.tk (tk_same s68) j5⟩
    obtain ⟨vs, e4, e5, e6⟩ := put st8 (by omega) hv blA (.iff hif ek g1 k1 j1) (by omega)
    exact ⟨ld, vs, _, rfl, rfl, e4, e5, e6⟩
  refine itF (decide_eq_false fun z => hif (hs_ifZ (V.str.inj z))) ?_
  -- simple
  refine ⟨_, rfl, a, t, rfl, hA, hc.le (by omega), fun H1 s1 => ⟨_, rfl, ?_⟩⟩
  have st1 := st.same s1
  have hA1 := hA.tk (tk_same s1)
  by_cases hs : simple t = true
  · refine itT hs ?_
    obtain ⟨vs1, hl1, _⟩ := st1.l
    refine ⟨_, rfl, .inl ⟨rfl, _, SqL.of hl1⟩, _, rfl, _, rfl, sz (by show 3 ≤ 100000; decide), fun p2 hp2 => ?_⟩
    have s8 := same_new hp2 (.tup [V.str "let", .str x, .ref a])
    have h8 : upd H1 p2 (.tup [V.str "let", .str x, .ref a]) p2 = some (.tup [V.str "let", .str x, .ref a]) := upd_same
    have st8 := st1.same s8
    generalize upd H1 p2 (.tup [V.str "let", .str x, .ref a]) = H8 at s8 h8 st8 ⊢
    obtain ⟨vs, e4, e5, e6⟩ := put (ls := []) (by rw [List.append_nil]; exact st8) (by have := cnt_pos t; show 0 + 1 ≤ cnt t; omega) (ld1 := .lett x t) ⟨p2, a, rfl, h8, hA1.tk (tk_same s8)⟩ (bl_same (s1.trans s8)) (.simple hs) (by have := cnt_pos t; omega)
    exact ⟨ld, vs, _, rfl, rfl, e4, e5, e6⟩
  have hs : simple t = false := by simpa using hs
  refine itF hs ?_
  have hd1 := s1 _ _ hd
  -- some
  refine ⟨_, rfl, t, a, rfl, hA1, fun p H5 us s5 h5 k5 => ⟨p, rfl, ⟨_, SqT.of h5⟩, fun D hD => lc_tup (K := K) (a := p) (xs := us) (SmI H5 ld fr D ls0 c (kidsT t)) (SmI.zero (st1.same s5) hD) ?_ ?_ ?_⟩⟩
  · rintro j H' _ ⟨ls, ss, c', acc, _, _, _, bl, _, _, _⟩
    exact SqT.of ((Bl.tk (st1.same s5) bl) _ _ h5)
  · rintro j x H2 hx hI
    obtain ⟨ti, hti, bi, rfl, hbi⟩ := k5.get hx
    have hti : (kidsT t)[j]? = some ti := hti
    refine ⟨rfl, ?_⟩
    dsimp only [tYes]
    exact iteT ⟨_, rfl, _, rfl, _, rfl, SmI.step (Q' := fun y H4 => ∃ acc, H4 D = some (HO.lst acc) ∧ acc.length < sizeLine ∧ SmI H5 ld fr D ls0 c (kidsT t) (j + 1) (upd H4 D (HO.lst (acc ++ [y])))) hI (st1.same s5) hD hti hbi (hc.kid (mem_of_get hti)) (by omega) (by omega) (by omega) hk4 fun v H4 acc g1 g2 g3 => ⟨acc, g1, g2, g3⟩⟩
  rintro H5' ⟨ls, ss, c', acc, lw, ll, lc, bl5, st6, hDD, ka⟩
  rw [show us.length = (kidsT t).length from k5.len, List.take_length] at lw ll lc
  refine ⟨D, acc, rfl, .inl ⟨SqL.of hDD, fun t6 ht6 => ?_⟩⟩
  have s6 := same_new ht6 (.tup acc)
  have h6 : upd H5' t6 (.tup acc) t6 = some (.tup acc) := upd_same
  have tk6 : TK H1 (upd H5' t6 (.tup acc)) := tk_trans (tk_trans (tk_same s5) (Bl.tk (st1.same s5) bl5)) (tk_same s6)
  have bl6 : Bl ld fr H1 (upd H5' t6 (.tup acc)) := (bl_same s5).trans (bl5.trans (bl_same s6))
  have st7 := st6.same s6
  have ka7 := ka.imp fun _ _ z => refV_tk (tk_same s6) z
  generalize upd H5' t6 (.tup acc) = H7 at h6 tk6 bl6 st7 ka7 ⊢
  have hd7 := tk6 _ _ hd1
  have blH : Bl ld fr H H7 := (bl_same s1).trans bl6
  refine ⟨_, rfl, a, _, _, _, rfl, rfl, SqT.of hd7, at0, rfl, _, rfl, ?_⟩
  obtain ⟨vs7, hl7, _⟩ := st7.l
  cases hh : hdT t with
  | lett y => exact (hlt ⟨y, hh⟩).elim
  | iff => exact (hif hh).elim
  | num z =>
    exfalso
    rw [hh] at l
    have hk : kidsT t = [] := by
      have := kk.len
      rw [l.1] at this
      exact List.length_eq_zero_iff.mp this.symm
    rw [simple_leaf (by rw [hh]; rfl) hk] at hs
    cases hs
  | nam z =>
    exfalso
    rw [hh] at l
    have hk : kidsT t = [] := by
      have := kk.len
      rw [l.1] at this
      exact List.length_eq_zero_iff.mp this.symm
    rw [simple_leaf (by rw [hh]; rfl) hk] at hs
    cases hs
  | ask g =>
    rw [hh] at l
    obtain ⟨l1, pp, l2, l3⟩ := l
    have ha7 := tk6 _ _ (s1 _ _ l2)
    refine itT rfl ?_
    refine ⟨_, rfl, fr, c', rfl, st7.f, by omega, fun H8 b8 f8 => ?_⟩
    have tk8 := But1.tkF st7.f b8
    have st8 := st7.new b8 f8
    have ha8 := tk8 _ _ ha7
    have h68 := tk8 _ _ h6
    obtain ⟨vs8, hl8, _⟩ := st8.l
    refine ⟨_, rfl, .inl ⟨rfl, _, SqL.of hl8⟩, _, rfl, _, rfl, _, rfl, a, _, _, _, rfl, rfl, SqT.of ha8, at1, _, rfl, _, rfl, sz (by show 4 ≤ 100000; decide), fun p1 hp1 => ⟨sz (by show 4 ≤ 100000; decide), fun p2 hp2 => ?_⟩⟩
    have s9 := same_new hp1 (.tup [V.str "ask", .str g, .ref t6, .str (sW c')])
    have h9 : upd H8 p1 (.tup [V.str "ask", .str g, .ref t6, .str (sW c')]) p1 = some (.tup [V.str "ask", .str g, .ref t6, .str (sW c')]) := upd_same
    have st9 := st8.same s9
    generalize upd H8 p1 (.tup [V.str "ask", .str g, .ref t6, .str (sW c')]) = H9 at s9 h9 st9 hp2 ⊢
    have sA := same_new hp2 (.tup [V.str "post", .str (sW c'), .str x, .ref p1])
    have hA2 : upd H9 p2 (.tup [V.str "post", .str (sW c'), .str x, .ref p1]) p2 = some (.tup [V.str "post", .str (sW c'), .str x, .ref p1]) := upd_same
    have stA := st9.same sA
    generalize upd H9 p2 (.tup [V.str "post", .str (sW c'), .str x, .ref p1]) = HA at sA hA2 stA ⊢
    have s9A := s9.trans sA
    have blA : Bl ld fr H HA := blH.trans ((bl_but b8).trans (bl_same s9A))
    have hv : LdV HA (.post (sW c') x (.ask g ss (sW c'))) (.ref p2) := ⟨p2, p1, rfl, hA2, t6, acc, sA _ _ h9, s9A _ _ h68, (ka7.imp fun _ _ z => refV_tk tk8 z).imp fun _ _ z => refV_tk (tk_same s9A) z⟩
    obtain ⟨vs, e4, e5, e6⟩ := put stA (by omega) hv blA (.ask hh lw) (by omega)
    exact ⟨ld, vs, _, rfl, rfl, e4, e5, e6⟩
  | tell =>
    rw [hh] at l
    obtain ⟨bb1, t1, ex, ek, h1⟩ := kids_one kk l.1
    rw [ek] at lw
    obtain ⟨s0, rfl, lw1⟩ := lw.one
    obtain ⟨e1, rfl⟩ : ∃ e1, acc = [V.ref e1] := by
      have := ka7.len
      match acc, ka7, this with
      | [v], ⟨⟨e1, h, _⟩, _⟩, _ => exact ⟨e1, by rw [h]⟩
    obtain ⟨⟨e1', he, hAe⟩, _⟩ := ka7
    cases he
    refine itF rfl ⟨_, rfl, a, _, _, _, rfl, rfl, SqT.of hd7, at0, rfl, _, rfl, itT (by rw [hh]; rfl) ?_⟩
    refine ⟨_, rfl, .inl ⟨rfl, _, SqL.of hl7⟩, _, rfl, _, rfl, t6, _, _, _, rfl, rfl, SqT.of h6, at0, sz (by show 3 ≤ 100000; decide), fun p2 hp2 => ?_⟩
    have sA := same_new hp2 (.tup [V.str "tell", .str x, .ref e1])
    have hA2 : upd H7 p2 (.tup [V.str "tell", .str x, .ref e1]) p2 = some (.tup [V.str "tell", .str x, .ref e1]) := upd_same
    have stA := st7.same sA
    generalize upd H7 p2 (.tup [V.str "tell", .str x, .ref e1]) = HA at sA hA2 stA ⊢
    obtain ⟨vs, e4, e5, e6⟩ := put stA (by omega) (ld1 := .tell x s0) ⟨p2, e1, rfl, hA2, hAe.tk (tk_same sA)⟩ (blH.trans (bl_same sA)) (.tell hh ek lw1) (by omega)
    exact ⟨ld, vs, _, rfl, rfl, e4, e5, e6⟩
  | plus =>
    rw [hh] at l
    obtain ⟨bb1, bb2, t1, t2, ex, ek, h1, h2⟩ := kids_two kk l.1
    have ha7 := tk6 _ _ (s1 _ _ l.2)
    refine itF rfl ⟨_, rfl, a, _, _, _, rfl, rfl, SqT.of hd7, at0, rfl, _, rfl, itF (by rw [hh]; rfl) ?_⟩
    refine ⟨_, rfl, .inl ⟨rfl, _, SqL.of hl7⟩, _, rfl, _, rfl, _, rfl, a, _, rfl, SqT.of ha7, fun z => absurd z (by rw [ex]; show ¬ (HT.sIx 3 0 none = 0 ∧ HT.sIx 3 3 (some 1) = 3); decide), fun _ p1 hp1 => ?_⟩
    rw [show cutV (V.str "plus" :: xs) none (some 1) = [V.str "plus"] by rw [ex]; rfl]
    have s8 := same_new hp1 (.tup [V.str "plus"])
    have h8 : upd H7 p1 (.tup [V.str "plus"]) p1 = some (.tup [V.str "plus"]) := upd_same
    have st8 := st7.same s8
    generalize upd H7 p1 (.tup [V.str "plus"]) = H8 at s8 h8 st8 ⊢
    have hl2 : ss.length = 2 := by
      rw [ek] at lw
      cases lw with
      | cons _ g2 =>
        cases g2 with
        | cons _ g3 =>
          cases g3
          rfl
    have hal : acc.length = 2 := by rw [ka7.len]; exact hl2
    refine ⟨_, rfl, catA_of h8 (s8 _ _ h6) (by rw [hal]; decide) fun p3 H9 s9 h9 => ?_⟩
    have s89 := s8.trans s9
    have st9 := st8.same s9
    refine ⟨sz (by show 3 ≤ 100000; decide), fun p2 hp2 => ?_⟩
    have sA := same_new hp2 (.tup [V.str "let", .str x, .ref p3])
    have hA2 : upd H9 p2 (.tup [V.str "let", .str x, .ref p3]) p2 = some (.tup [V.str "let", .str x, .ref p3]) := upd_same
    have stA := st9.same sA
    generalize upd H9 p2 (.tup [V.str "let", .str x, .ref p3]) = HA at sA hA2 stA ⊢
    have s7A := s89.trans sA
    obtain ⟨vs, e4, e5, e6⟩ := put stA (by omega) (ld1 := .lett x (mkL (hdT t) ss)) ⟨p2, p3, rfl, hA2, by
      rw [hh]
      exact at_mkL (h := .plus) (vs := acc) ⟨hal, sA _ _ h9⟩ (N.stk_of (ka7.imp fun _ _ z => refV_tk (tk_same s7A) z))⟩ (blH.trans (bl_same s7A)) (.op hs (.inl hh) lw) (by omega)
    exact ⟨ld, vs, _, rfl, rfl, e4, e5, e6⟩
  | less =>
    rw [hh] at l
    obtain ⟨bb1, bb2, t1, t2, ex, ek, h1, h2⟩ := kids_two kk l.1
    have ha7 := tk6 _ _ (s1 _ _ l.2)
    refine itF rfl ⟨_, rfl, a, _, _, _, rfl, rfl, SqT.of hd7, at0, rfl, _, rfl, itF (by rw [hh]; rfl) ?_⟩
    refine ⟨_, rfl, .inl ⟨rfl, _, SqL.of hl7⟩, _, rfl, _, rfl, _, rfl, a, _, rfl, SqT.of ha7, fun z => absurd z (by rw [ex]; show ¬ (HT.sIx 3 0 none = 0 ∧ HT.sIx 3 3 (some 1) = 3); decide), fun _ p1 hp1 => ?_⟩
    rw [show cutV (V.str "less" :: xs) none (some 1) = [V.str "less"] by rw [ex]; rfl]
    have s8 := same_new hp1 (.tup [V.str "less"])
    have h8 : upd H7 p1 (.tup [V.str "less"]) p1 = some (.tup [V.str "less"]) := upd_same
    have st8 := st7.same s8
    generalize upd H7 p1 (.tup [V.str "less"]) = H8 at s8 h8 st8 ⊢
    have hl2 : ss.length = 2 := by
      rw [ek] at lw
      cases lw with
      | cons _ g2 =>
        cases g2 with
        | cons _ g3 =>
          cases g3
          rfl
    have hal : acc.length = 2 := by rw [ka7.len]; exact hl2
    refine ⟨_, rfl, catA_of h8 (s8 _ _ h6) (by rw [hal]; decide) fun p3 H9 s9 h9 => ?_⟩
    have s89 := s8.trans s9
    have st9 := st8.same s9
    refine ⟨sz (by show 3 ≤ 100000; decide), fun p2 hp2 => ?_⟩
    have sA := same_new hp2 (.tup [V.str "let", .str x, .ref p3])
    have hA2 : upd H9 p2 (.tup [V.str "let", .str x, .ref p3]) p2 = some (.tup [V.str "let", .str x, .ref p3]) := upd_same
    have stA := st9.same sA
    generalize upd H9 p2 (.tup [V.str "let", .str x, .ref p3]) = HA at sA hA2 stA ⊢
    have s7A := s89.trans sA
    obtain ⟨vs, e4, e5, e6⟩ := put stA (by omega) (ld1 := .lett x (mkL (hdT t) ss)) ⟨p2, p3, rfl, hA2, by
      rw [hh]
      exact at_mkL (h := .less) (vs := acc) ⟨hal, sA _ _ h9⟩ (N.stk_of (ka7.imp fun _ _ z => refV_tk (tk_same s7A) z))⟩ (blH.trans (bl_same s7A)) (.op hs (.inr hh) lw) (by omega)
    exact ⟨ld, vs, _, rfl, rfl, e4, e5, e6⟩
end
end KB

set_option pp.maxSteps 400
namespace KB
open PySem L2 HT LamX NdefX

theorem bl_fresh {ld fr : Addr} {H H' : Hp} (h0 : H ld = none) (b : Bl ld fr H H') : But1 fr H H' := fun x o m h => b _ _ (fun z => by rw [z, h0] at h; cases h) m h
section
variable {P : Program} {w : World} {K : PySem.W.Frag} {mg : Str → Option Value} {base : Heap}
/-! ### _law_done_to -/
abbrev s_law_done_to : Stmt := top 42
theorem scLdone_to : FnScope ["term", "hand", "fresh", "lead", "choice", "one", "part", "some", "x"] ["term", "hand", "fresh"] (defScope s_law_done_to) := ⟨rfl, rfl, rfl, by decide +kernel, rfl, by decide +kernel, by decide +kernel⟩
theorem ok_do (T : Txt K mg) {n : Nat} {f f1 f2 f3 f4 f5 f6 : Addr} {fd d1 d2 d3 d4 d5 d6 : FuncData} (F : Fun K "_law_done_to" "_law_done_to" s_law_done_to f fd) (G_law_done_to : FnOk P w K mg base CX0 (2 * n + 16) f fd ["term", "hand", "fresh"] (spDo n)) (R_law_done_to : Ref K mg "_law_done_to" f fd ["term", "hand", "fresh"])
    (G_is : FnOk P w K mg base CX0 15 f1 d1 ["term"] (spSimB 14)) (R_law_is_simple_term : Ref K mg "_law_is_simple_term" f1 d1 ["term"]) (G_law_new : FnOk P w K mg base CX0 1 f2 d2 ["fresh"] spNewL) (R_law_new : Ref K mg "_law_new" f2 d2 ["fresh"]) (G_law_parts : FnOk P w K mg base CX0 1 f5 d5 ["term"] (spKids TrT)) (R_law_parts : Ref K mg "_law_parts" f5 d5 ["term"])
    (G_law_made_simple : FnOk P w K mg base CX0 (2 * n + 17) f3 d3 ["term", "lead", "fresh"] (spMs n)) (R_law_made_simple : Ref K mg "_law_made_simple" f3 d3 ["term", "lead", "fresh"])
    (G_law_under : FnOk P w K mg base CX0 (2 * n + 16) f4 d4 ["term", "x", "lead", "fresh"] (spUn n)) (R_law_under : Ref K mg "_law_under" f4 d4 ["term", "x", "lead", "fresh"])
    (G_law_behind_lead : FnOk P w K mg base CX0 1 f6 d6 ["lead", "part"] spBeh) (R_law_behind_lead : Ref K mg "_law_behind_lead" f6 d6 ["lead", "part"]) : FnOk P w K mg base CX0 (2 * n + 18) f fd ["term", "hand", "fresh"] (spDo (n + 1)) := by
  refine F.ok scLdone_to (fun vs H Q E h => ?_) (fun cdv A outer s H vs Q E hr h => ?_)
  · obtain ⟨a, fr, j, t, c, rfl, _⟩ := h
    rfl
  obtain ⟨a, fr, jj, t, c, rfl, hA, hc, hn, hf, b1, b2, q⟩ := h
  refine ⟨_, (pss_cons (ps_set (i := 3) scLdone_to.nd rfl (Or.inr rfl) (pe_lst pa_nil))
    (pss_cons (ps_if (pt_val (pe_call G_is (hr.mono (by omega)) rfl R_law_is_simple_term.m R_law_is_simple_term.k R_law_is_simple_term.b .nil pass0 (pa_cons (pv 0) pa_nil))) (pss_one (ps_ret (pe_tup (pa_cons pe_str (pa_cons (pv 1) (pa_cons (pv 0) pa_nil)))))) pss_nil)
    (pss_cons (ps_if (pt_cmpR op_eq (pe_ix ix_tup (pv 0) pe_int (fun _ _ => rfl)) pe_str (nomark _)) (pss_cons (ps_expr (pe_call G_law_under (hr.mono (by omega)) rfl R_law_under.m R_law_under.k R_law_under.b .nil pass0 (pa_cons (pe_ix ix_tup (pv 0) pe_int (fun _ _ => rfl)) (pa_cons (pe_ix ix_tup (pv 0) pe_int (fun _ _ => rfl)) (pa_cons (pv 3) (pa_cons (pv 2) pa_nil))))))
    (pss_one (ps_ret (pe_call G_law_behind_lead (hr.mono (by omega)) rfl R_law_behind_lead.m R_law_behind_lead.k R_law_behind_lead.b .nil pass0 (pa_cons (pv 3) (pa_cons (pe_call G_law_done_to (hr.mono (by omega)) rfl R_law_done_to.m R_law_done_to.k R_law_done_to.b .nil pass0 (pa_cons (pe_ix ix_tup (pv 0) pe_int (fun _ _ => rfl)) (pa_cons (pv 1) (pa_cons (pv 2) pa_nil)))) pa_nil)))))) pss_nil)
    (pss_cons (ps_if (pt_cmpR op_eq (pe_ix ix_tup (pv 0) pe_int (fun _ _ => rfl)) pe_str (nomark _)) (pss_cons (ps_set (i := 4) scLdone_to.nd rfl (Or.inl rfl) (pe_call G_law_made_simple (hr.mono (by omega)) rfl R_law_made_simple.m R_law_made_simple.k R_law_made_simple.b .nil pass0 (pa_cons (pe_ix ix_tup (pv 0) pe_int (fun _ _ => rfl)) (pa_cons (pv 3) (pa_cons (pv 2) pa_nil)))))
    (pss_cons (ps_set (i := 5) scLdone_to.nd rfl (Or.inl rfl) (pe_call G_law_done_to (hr.mono (by omega)) rfl R_law_done_to.m R_law_done_to.k R_law_done_to.b .nil pass0 (pa_cons (pe_ix ix_tup (pv 0) pe_int (fun _ _ => rfl)) (pa_cons (pv 1) (pa_cons (pv 2) pa_nil)))))
    (pss_cons (ps_set (i := 6) scLdone_to.nd rfl (Or.inl rfl) (pe_tup (pa_cons pe_str (pa_cons (pv 4) (pa_cons (pv 5) (pa_cons (pe_call G_law_done_to (hr.mono (by omega)) rfl R_law_done_to.m R_law_done_to.k R_law_done_to.b .nil pass0 (pa_cons (pe_ix ix_tup (pv 0) pe_int (fun _ _ => rfl)) (pa_cons (pv 1) (pa_cons (pv 2) pa_nil)))) pa_nil))))))
    (pss_one (ps_ret (pe_call G_law_behind_lead (hr.mono (by omega)) rfl R_law_behind_lead.m R_law_behind_lead.k R_law_behind_lead.b .nil pass0 (pa_cons (pv 3) (pa_cons (pv 6) pa_nil)))))))) pss_nil)
    (pss_cons (ps_set (i := 7) scLdone_to.nd rfl (Or.inl rfl) (pe_callTy call_tuple_of (by rfl) T.m_tuple (by decide +kernel) (pa_cons (pe_lc (own := [("part", 6)]) (g := gName 6) (tt := tYes) (te := tCall (spMs n) [] E0 (tCons (tVar 6) (tCons (tVar 3) (tCons (tVar 2) tNil)))) (by rfl) scLdone_to.nd (pi_tup (pe_call G_law_parts (hr.mono (by omega)) rfl R_law_parts.m R_law_parts.k R_law_parts.b .nil pass0 (pa_cons (pv 0) pa_nil))) (blkOk_by (own := [("part", 6)]) (N := ["term", "hand", "fresh", "lead", "choice", "one", "part", "some", "x"]) (sc := defScope s_law_done_to) (by decide +kernel)) (fun _ _ _ _ _ => (pg_name (i := 6) scLdone_to.nd rfl (Or.inl rfl))) (fun _ _ _ _ _ => pts_nil) (fun _ _ _ _ _ => (pe_call G_law_made_simple (hr.mono (by omega)) rfl R_law_made_simple.m R_law_made_simple.k R_law_made_simple.b .nil pass0 (pa_cons (pv 6) (pa_cons (pv 3) (pa_cons (pv 2) pa_nil)))))) pa_nil)))
    (pss_cons (ps_if (pt_cmpR op_eq (pe_ix ix_tup (pv 0) pe_int (fun _ _ => rfl)) pe_str (nomark _)) (pss_one (ps_ret (pe_call G_law_behind_lead (hr.mono (by omega)) rfl R_law_behind_lead.m R_law_behind_lead.k R_law_behind_lead.b .nil pass0 (pa_cons (pv 3) (pa_cons (pe_tup (pa_cons pe_str (pa_cons (pe_ix ix_tup (pv 0) pe_int (fun _ _ => rfl)) (pa_cons (pv 7) (pa_cons (pv 1) pa_nil))))) pa_nil))))) pss_nil)
    (pss_cons (ps_if (pt_cmpR op_eq (pe_ix ix_tup (pv 0) pe_int (fun _ _ => rfl)) pe_str (nomark _)) (pss_cons (ps_set (i := 8) scLdone_to.nd rfl (Or.inl rfl) (pe_call G_law_new (hr.mono (by omega)) rfl R_law_new.m R_law_new.k R_law_new.b .nil pass0 (pa_cons (pv 2) pa_nil)))
    (pss_one (ps_ret (pe_call G_law_behind_lead (hr.mono (by omega)) rfl R_law_behind_lead.m R_law_behind_lead.k R_law_behind_lead.b .nil pass0 (pa_cons (pv 3) (pa_cons (pe_tup (pa_cons pe_str (pa_cons (pv 8) (pa_cons (pe_ix ix_tup (pv 7) pe_int (fun _ _ => rfl)) (pa_cons (pe_tup (pa_cons pe_str (pa_cons (pv 1) (pa_cons (pe_tup (pa_cons pe_str (pa_cons (pv 8) pa_nil))) pa_nil)))) pa_nil))))) pa_nil)))))) pss_nil)
    (pss_one (ps_ret (pe_call G_law_behind_lead (hr.mono (by omega)) rfl R_law_behind_lead.m R_law_behind_lead.k R_law_behind_lead.b .nil pass0 (pa_cons (pv 3) (pa_cons (pe_tup (pa_cons pe_str (pa_cons (pv 1) (pa_cons (pe_op op_catA (pe_slice sl_tupA (pv 0) po_none (po_some pe_int)) (pv 7)) pa_nil)))) pa_nil)))))))))))), ?_⟩
  refine ⟨sz (by show 0 ≤ 100000; decide), fun ld hld => ?_⟩
  have s0 := same_new hld (.lst [])
  have nlf : ld ≠ fr := fun z => by rw [z, hf] at hld; cases hld
  have st0 : StA (upd H ld (.lst [])) ld fr [] c := ⟨⟨[], upd_same, trivial⟩, s0 _ _ hf, nlf⟩
  have hA0 := hA.tk (tk_same s0)
  generalize upd H ld (.lst []) = H0 at s0 st0 hA0 ⊢
  -- simple
  refine ⟨_, rfl, a, t, rfl, hA0, hc.le (by omega), fun H1 s1 => ⟨_, rfl, ?_⟩⟩
  have st1 := st0.same s1
  have hA1 := hA0.tk (tk_same s1)
  have s01 := s0.trans s1
  by_cases hs : simple t = true
  · refine itT hs ⟨_, rfl, _, rfl, sz (by show 3 ≤ 100000; decide), fun tt htt => ?_⟩
    have s2 := same_new htt (.tup [V.str "give", .str jj, .ref a])
    exact q _ tt [] (.give jj t) c (.simple hs) (by omega) (bl_fresh hld (bl_same (s01.trans s2))) (s2 _ _ st1.f) ⟨a, upd_same, hA1.tk (tk_same s2)⟩
  have hs : simple t = false := by simpa using hs
  refine itF hs ?_
  obtain ⟨xs, l, kk⟩ := At.kids hA1
  obtain ⟨r, hd⟩ := l.head
  have hk4 : (kidsT t).length ≤ 4 := by rw [← kk.len]; exact N.lay_len l
  have ek0 := cnt_kids t
  -- behind the lead
  have fin : ∀ {H7 : Hp} {ls ls2 : List Ld} {c' : Nat} {q0 q2 : Pt} {b : Addr}, StA H7 ld fr ls c' → Bl ld fr H1 H7 → PAt H7 q0 b → ls.length ≤ 40000 → LwD t jj c ls2 q2 c' → putAh ls q0 = putAh ls2 q2 → c' ≤ c + 2 * cnt t → spBeh [.ref ld, .ref b] H7 Q E0 := fun {H7 ls ls2 c' q0 q2 b} st7 bl hP hl lw he hc' => by
    obtain ⟨vs, e1, e2⟩ := st7.l
    refine ⟨ld, b, vs, ls, q0, rfl, e1, e2, hP, by omega, fun H' b' s hP2 => ?_⟩
    exact q H' b' ls2 q2 c' lw hc' (bl_fresh hld ((bl_same s01).trans (bl.trans (bl_same s)))) (s _ _ st7.f) (by rw [← he]; exact hP2)
  refine ⟨_, rfl, a, _, _, _, rfl, rfl, SqT.of hd, at0, rfl, _, rfl, ?_⟩
  by_cases hlt : ∃ y, hdT t = .lett y
  · obtain ⟨y, hh⟩ := hlt
    rw [hh] at l ⊢
    obtain ⟨bb1, bb2, t1, t2, ex, ek, h1, h2⟩ := kids_two kk l.1
    rw [ex] at l
    have ha := l.2
    have m1 : t1 ∈ kidsT t := by rw [ek]; simp
    have m2 : t2 ∈ kidsT t := by rw [ek]; simp
    have ec := cnt_two ek
    refine itT rfl ?_
    refine ⟨_, rfl, a, _, _, _, rfl, rfl, SqT.of ha, at2, _, rfl, a, _, _, _, rfl, rfl, SqT.of ha, at1, _, rfl, _, rfl, bb1, ld, fr, y, t1, [], c, rfl, h1, hc.kid m1, by omega, st1, by show 0 + cnt t1 ≤ 40000; omega, by omega, fun H3 la c1 g1 g2 g3 g4 g5 => ?_⟩
    have tk3 := Bl.tk st1 g4
    have ha3 := tk3 _ _ ha
    rw [List.nil_append] at g5
    refine ⟨_, rfl, _, rfl, a, _, _, _, rfl, rfl, SqT.of ha3, at3, _, rfl, _, rfl, bb2, fr, jj, t2, c1, rfl, h2.tk tk3, hc.kid m2, by omega, g5.f, by omega, by omega, fun H4 e lb qb c2 k1 k2 k3 k4 k5 => ?_⟩
    exact fin (g5.new k3 k4) (g4.trans (bl_but k3)) k5 (by omega) (.lett hh ek g1 k1) (put_two la lb qb).symm (by omega)
  refine itF (decide_eq_false fun z => hlt (hs_letZ (V.str.inj z))) ?_
  refine ⟨_, rfl, a, _, _, _, rfl, rfl, SqT.of hd, at0, rfl, _, rfl, ?_⟩
  by_cases hif : hdT t = .iff
  · rw [hif] at l ⊢
    obtain ⟨bb1, bb2, bb3, t1, t2, t3, ex, ek, h1, h2, h3⟩ := kids_three kk l.1
    rw [ex] at l
    have ha := l.2
    have m1 : t1 ∈ kidsT t := by rw [ek]; simp
    have m2 : t2 ∈ kidsT t := by rw [ek]; simp
    have m3 : t3 ∈ kidsT t := by rw [ek]; simp
    have ec := cnt_three ek
    refine itT rfl ?_
    refine ⟨_, rfl, a, _, _, _, rfl, rfl, SqT.of ha, at1, _, rfl, _, rfl, bb1, ld, fr, t1, [], c, rfl, h1, hc.kid m1, by omega, st1, by show 0 + cnt t1 ≤ 40000; omega, by omega, fun H3 e1 la sa c1 g1 g2 g3 g4 g5 g6 => ?_⟩
    have tk3 := Bl.tk st1 g4
    rw [List.nil_append] at g5
    have ha3 := tk3 _ _ ha
    refine ⟨_, rfl, a, _, _, _, rfl, rfl, SqT.of ha3, at2, _, rfl, _, rfl, bb2, fr, jj, t2, c1, rfl, h2.tk tk3, hc.kid m2, by omega, g5.f, by omega, by omega, fun H5 e2 lb qb c2 k1 k2 k3 k4 k5 => ?_⟩
    have tk5 := But1.tkF g5.f k3
    have st5 := g5.new k3 k4
    have ha5 := tk5 _ _ ha3
    refine ⟨_, rfl, _, rfl, _, rfl, a, _, _, _, rfl, rfl, SqT.of ha5, at3, _, rfl, _, rfl, bb3, fr, jj, t3, c2, rfl, (h3.tk tk3).tk tk5, hc.kid m3, by omega, k4, by omega, by omega, fun H6 e3 lc qc c3 j1 j2 j3 j4 j5 => ?_⟩
    have tk6 := But1.tkF k4 j3
    have st6 := st5.new j3 j4
    refine ⟨sz (by show 4 ≤ 100000; decide), fun p1 hp1 => ?_⟩
    have s7 := same_new hp1 (.tup [V.str "if", .ref e1, .ref e2, .ref e3])
    have h7 : upd H6 p1 (.tup [V.str "if", .ref e1, .ref e2, .ref e3]) p1 = some (.tup [V.str "if", .ref e1, .ref e2, .ref e3]) := upd_same
    have st7 := st6.same s7
    generalize upd H6 p1 (.tup [V.str "if", .ref e1, .ref e2, .ref e3]) = H7 at s7 h7 st7 ⊢
    refine ⟨_, rfl, _, rfl, fin st7 (g4.trans ((bl_but k3).trans ((bl_but j3).trans (bl_same s7)))) (q0 := .iff sa (putAh lb qb) (putAh lc qc)) ⟨e1, e2, e3, h7, ((g6.tk tk5).tk tk6).tk (tk_same s7), PAt.tk (tk_same s7) (PAt.tk tk6 k5), PAt.tk (tk_same s7) j5⟩ (by omega) (.iff hif ek g1 k1 j1) rfl (by omega)⟩
  refine itF (decide_eq_false fun z => hif (hs_ifZ (V.str.inj z))) ?_
  -- some
  refine ⟨_, rfl, t, a, rfl, hA1, fun p H5 us s5 h5 k5 => ⟨p, rfl, ⟨_, SqT.of h5⟩, fun D hD => lc_tup (K := K) (a := p) (xs := us) (SmI H5 ld fr D [] c (kidsT t)) (SmI.zero (st1.same s5) hD) ?_ ?_ ?_⟩⟩
  · rintro j H' _ ⟨ls, ss, c', acc, _, _, _, bl, _, _, _⟩
    exact SqT.of ((Bl.tk (st1.same s5) bl) _ _ h5)
  · rintro j x H2 hx hI
    obtain ⟨ti, hti, bi, rfl, hbi⟩ := k5.get hx
    have hti : (kidsT t)[j]? = some ti := hti
    refine ⟨rfl, ?_⟩
    dsimp only [tYes]
    exact iteT ⟨_, rfl, _, rfl, _, rfl, SmI.step (Q' := fun y H4 => ∃ acc, H4 D = some (HO.lst acc) ∧ acc.length < sizeLine ∧ SmI H5 ld fr D [] c (kidsT t) (j + 1) (upd H4 D (HO.lst (acc ++ [y])))) hI (st1.same s5) hD hti hbi (hc.kid (mem_of_get hti)) (by omega) (by show 0 + cnts (kidsT t) ≤ 40000; omega) (by omega) hk4 fun v H4 acc g1 g2 g3 => ⟨acc, g1, g2, g3⟩⟩
  rintro H5' ⟨ls, ss, c', acc, lw, ll, lc, bl5, st6, hDD, ka⟩
  rw [show us.length = (kidsT t).length from k5.len, List.take_length] at lw ll lc
  refine ⟨D, acc, rfl, .inl ⟨SqL.of hDD, fun t6 ht6 => ?_⟩⟩
  have s6 := same_new ht6 (.tup acc)
  have h6 : upd H5' t6 (.tup acc) t6 = some (.tup acc) := upd_same
  have tk6 : TK H1 (upd H5' t6 (.tup acc)) := tk_trans (tk_trans (tk_same s5) (Bl.tk (st1.same s5) bl5)) (tk_same s6)
  have bl6 : Bl ld fr H1 (upd H5' t6 (.tup acc)) := (bl_same s5).trans (bl5.trans (bl_same s6))
  have st7 := st6.same s6
  have ka7 := ka.imp fun _ _ z => refV_tk (tk_same s6) z
  generalize upd H5' t6 (.tup acc) = H7 at h6 tk6 bl6 st7 ka7 ⊢
  have hd7 := tk6 _ _ hd
  rw [List.nil_append] at st7
  refine ⟨_, rfl, a, _, _, _, rfl, rfl, SqT.of hd7, at0, rfl, _, rfl, ?_⟩
  cases hh : hdT t with
  | lett y => exact (hlt ⟨y, hh⟩).elim
  | iff => exact (hif hh).elim
  | num z =>
    exfalso
    rw [hh] at l
    have hk : kidsT t = [] := by
      have := kk.len
      rw [l.1] at this
      exact List.length_eq_zero_iff.mp this.symm
    rw [simple_leaf (by rw [hh]; rfl) hk] at hs
    cases hs
  | nam z =>
    exfalso
    rw [hh] at l
    have hk : kidsT t = [] := by
      have := kk.len
      rw [l.1] at this
      exact List.length_eq_zero_iff.mp this.symm
    rw [simple_leaf (by rw [hh]; rfl) hk] at hs
    cases hs
  | ask g =>
    rw [hh] at l
    obtain ⟨l1, pp, l2, l3⟩ := l
    have ha7 := tk6 _ _ l2
    refine itT rfl ?_
    refine ⟨_, rfl, _, rfl, a, _, _, _, rfl, rfl, SqT.of ha7, at1, _, rfl, _, rfl, sz (by show 4 ≤ 100000; decide), fun p1 hp1 => ?_⟩
    have s9 := same_new hp1 (.tup [V.str "ask", .str g, .ref t6, .str jj])
    have h9 : upd H7 p1 (.tup [V.str "ask", .str g, .ref t6, .str jj]) p1 = some (.tup [V.str "ask", .str g, .ref t6, .str jj]) := upd_same
    have st9 := st7.same s9
    generalize upd H7 p1 (.tup [V.str "ask", .str g, .ref t6, .str jj]) = H9 at s9 h9 st9 ⊢
    exact fin st9 (bl6.trans (bl_same s9)) (q0 := .ask g ss jj) ⟨t6, acc, h9, s9 _ _ h6, ka7.imp fun _ _ z => refV_tk (tk_same s9) z⟩ (by omega) (.ask hh lw) rfl (by omega)
  | tell =>
    rw [hh] at l
    obtain ⟨bb1, t1, ex, ek, h1⟩ := kids_one kk l.1
    rw [ek] at lw
    obtain ⟨s0', rfl, lw1⟩ := lw.one
    obtain ⟨e1, rfl⟩ : ∃ e1, acc = [V.ref e1] := by
      have := ka7.len
      match acc, ka7, this with
      | [v], ⟨⟨e1, h, _⟩, _⟩, _ => exact ⟨e1, by rw [h]⟩
    obtain ⟨⟨e1', he, hAe⟩, _⟩ := ka7
    cases he
    refine itF rfl ⟨_, rfl, a, _, _, _, rfl, rfl, SqT.of hd7, at0, rfl, _, rfl, itT (by rw [hh]; rfl) ?_⟩
    refine ⟨_, rfl, fr, c', rfl, st7.f, by omega, fun H8 b8 f8 => ?_⟩
    have tk8 := But1.tkF st7.f b8
    have st8 := st7.new b8 f8
    have h68 := tk8 _ _ h6
    refine ⟨_, rfl, _, rfl, _, rfl, t6, _, _, _, rfl, rfl, SqT.of h68, at0, _, rfl, _, rfl, sz (by show 2 ≤ 100000; decide), fun p0 hp0 => ⟨sz (by show 3 ≤ 100000; decide), fun p1 hp1 => ⟨sz (by show 4 ≤ 100000; decide), fun p2 hp2 => ?_⟩⟩⟩
    have s9 := same_new hp0 (.tup [V.str "name", .str (sW c')])
    have h9 : upd H8 p0 (.tup [V.str "name", .str (sW c')]) p0 = some (.tup [V.str "name", .str (sW c')]) := upd_same
    have st9 := st8.same s9
    generalize upd H8 p0 (.tup [V.str "name", .str (sW c')]) = H9 at s9 h9 st9 hp1 hp2 ⊢
    have sA := same_new hp1 (.tup [V.str "give", .str jj, .ref p0])
    have hA2 : upd H9 p1 (.tup [V.str "give", .str jj, .ref p0]) p1 = some (.tup [V.str "give", .str jj, .ref p0]) := upd_same
    have stA := st9.same sA
    generalize upd H9 p1 (.tup [V.str "give", .str jj, .ref p0]) = HA at sA hA2 stA hp2 ⊢
    have sB := same_new hp2 (.tup [V.str "tell", .str (sW c'), .ref e1, .ref p1])
    have hB2 : upd HA p2 (.tup [V.str "tell", .str (sW c'), .ref e1, .ref p1]) p2 = some (.tup [V.str "tell", .str (sW c'), .ref e1, .ref p1]) := upd_same
    have stB := stA.same sB
    generalize upd HA p2 (.tup [V.str "tell", .str (sW c'), .ref e1, .ref p1]) = HB at sB hB2 stB ⊢
    have s9B := s9.trans (sA.trans sB)
    exact fin stB (bl6.trans ((bl_but b8).trans (bl_same s9B))) (q0 := .tell (sW c') s0' (.give jj (mkL (.nam (sW c')) []))) ⟨e1, p1, hB2, (hAe.tk tk8).tk (tk_same s9B), p0, sB _ _ hA2, at_mkL (h := .nam (sW c')) (vs := []) ⟨rfl, (sA.trans sB) _ _ h9⟩ trivial⟩ (by omega) (.tell hh ek lw1) (put_two ls [.tell (sW c') s0'] (.give jj (mkL (.nam (sW c')) []))).symm (by omega)
  | plus =>
    rw [hh] at l
    obtain ⟨bb1, bb2, t1, t2, ex, ek, h1, h2⟩ := kids_two kk l.1
    have ha7 := tk6 _ _ l.2
    refine itF rfl ⟨_, rfl, a, _, _, _, rfl, rfl, SqT.of hd7, at0, rfl, _, rfl, itF (by rw [hh]; rfl) ?_⟩
    refine ⟨_, rfl, _, rfl, _, rfl, _, rfl, a, _, rfl, SqT.of ha7, fun z => absurd z (by rw [ex]; show ¬ (HT.sIx 3 0 none = 0 ∧ HT.sIx 3 3 (some 1) = 3); decide), fun _ p1 hp1 => ?_⟩
    rw [show cutV (V.str "plus" :: xs) none (some 1) = [V.str "plus"] by rw [ex]; rfl]
    have s8 := same_new hp1 (.tup [V.str "plus"])
    have h8 : upd H7 p1 (.tup [V.str "plus"]) p1 = some (.tup [V.str "plus"]) := upd_same
    have st8 := st7.same s8
    generalize upd H7 p1 (.tup [V.str "plus"]) = H8 at s8 h8 st8 ⊢
    have hl2 : ss.length = 2 := by
      rw [ek] at lw
      cases lw with
      | cons _ g2 =>
        cases g2 with
        | cons _ g3 =>
          cases g3
          rfl
    have hal : acc.length = 2 := by rw [ka7.len]; exact hl2
    refine ⟨_, rfl, catA_of h8 (s8 _ _ h6) (by rw [hal]; decide) fun p3 H9 s9 h9 => ?_⟩
    have s89 := s8.trans s9
    have st9 := st8.same s9
    refine ⟨sz (by show 3 ≤ 100000; decide), fun p2 hp2 => ?_⟩
    have sA := same_new hp2 (.tup [V.str "give", .str jj, .ref p3])
    have hA2 : upd H9 p2 (.tup [V.str "give", .str jj, .ref p3]) p2 = some (.tup [V.str "give", .str jj, .ref p3]) := upd_same
    have stA := st9.same sA
    generalize upd H9 p2 (.tup [V.str "give", .str jj, .ref p3]) = HA at sA hA2 stA ⊢
    have s7A := s89.trans sA
    exact fin stA (bl6.trans (bl_same s7A)) (q0 := .give jj (mkL (hdT t) ss)) ⟨p3, hA2, by
      rw [hh]
      exact at_mkL (h := .plus) (vs := acc) ⟨hal, sA _ _ h9⟩ (N.stk_of (ka7.imp fun _ _ z => refV_tk (tk_same s7A) z))⟩ (by omega) (.op hs (.inl hh) lw) rfl (by omega)
  | less =>
    rw [hh] at l
    obtain ⟨bb1, bb2, t1, t2, ex, ek, h1, h2⟩ := kids_two kk l.1
    have ha7 := tk6 _ _ l.2
    refine itF rfl ⟨_, rfl, a, _, _, _, rfl, rfl, SqT.of hd7, at0, rfl, _, rfl, itF (by rw [hh]; rfl) ?_⟩
    refine ⟨_, rfl, _, rfl, _, rfl, _, rfl, a, _, rfl, SqT.of ha7, fun z => absurd z (by rw [ex]; show ¬ (HT.sIx 3 0 none = 0 ∧ HT.sIx 3 3 (some 1) = 3); decide), fun _ p1 hp1 => ?_⟩
    rw [show cutV (V.str "less" :: xs) none (some 1) = [V.str "less"] by rw [ex]; rfl]
    have s8 := same_new hp1 (.tup [V.str "less"])
    have h8 : upd H7 p1 (.tup [V.str "less"]) p1 = some (.tup [V.str "less"]) := upd_same
    have st8 := st7.same s8
    generalize upd H7 p1 (.tup [V.str "less"]) = H8 at s8 h8 st8 ⊢
    have hl2 : ss.length = 2 := by
      rw [ek] at lw
      cases lw with
      | cons _ g2 =>
        cases g2 with
        | cons _ g3 =>
          cases g3
          rfl
    have hal : acc.length = 2 := by rw [ka7.len]; exact hl2
    refine ⟨_, rfl, catA_of h8 (s8 _ _ h6) (by rw [hal]; decide) fun p3 H9 s9 h9 => ?_⟩
    have s89 := s8.trans s9
    have st9 := st8.same s9
    refine ⟨sz (by show 3 ≤ 100000; decide), fun p2 hp2 => ?_⟩
    have sA := same_new hp2 (.tup [V.str "give", .str jj, .ref p3])
    have hA2 : upd H9 p2 (.tup [V.str "give", .str jj, .ref p3]) p2 = some (.tup [V.str "give", .str jj, .ref p3]) := upd_same
    have stA := st9.same sA
    generalize upd H9 p2 (.tup [V.str "give", .str jj, .ref p3]) = HA at sA hA2 stA ⊢
    have s7A := s89.trans sA
    exact fin stA (bl6.trans (bl_same s7A)) (q0 := .give jj (mkL (hdT t) ss)) ⟨p3, hA2, by
      rw [hh]
      exact at_mkL (h := .less) (vs := acc) ⟨hal, sA _ _ h9⟩ (N.stk_of (ka7.imp fun _ _ z => refV_tk (tk_same s7A) z))⟩ (by omega) (.op hs (.inr hh) lw) rfl (by omega)
end
end KB

set_option pp.maxSteps 400
namespace KB
open PySem L2 HT LamX NdefX

/-- the law's turning of a book -/
def LwB : List Er → List N.TEr → Nat → Nat → Prop
  | [], [], c, c' => c' = c
  | e :: es, t :: ts, c, c' => ∃ c1, LwE e t c c1 ∧ LwB es ts c1 c'
  | _, _, _, _ => False
theorem LwB.snoc : ∀ {es : List Er} {ts : List N.TEr} {c c1 c2 : Nat} {e : Er} {t : N.TEr}, LwB es ts c c1 → LwE e t c1 c2 → LwB (es ++ [e]) (ts ++ [t]) c c2
  | [], [], c, c1, c2, e, t, h, g => by
    have h : c1 = c := h
    subst h
    exact ⟨c2, g, rfl⟩
  | e0 :: es, t0 :: ts, c, c1, c2, e, t, h, g => by
    obtain ⟨c3, h1, h2⟩ := h
    exact ⟨c3, h1, LwB.snoc h2 g⟩
  | [], _ :: _, _, _, _, _, _, h, _ => h.elim
  | _ :: _, [], _, _, _, _, _, h, _ => h.elim
section
variable {P : Program} {w : World} {K : PySem.W.Frag} {mg : Str → Option Value} {base : Heap}
theorem no_ms {k : Nat} {f : Addr} {fd : FuncData} {ps : List Str} : FnOk P w K mg base CX0 k f fd ps (spMs 0) := by
  have no : ∀ vs H Q E, ¬ spMs 0 vs H Q E := fun vs H Q E h => by
    obtain ⟨a, ld, fr, t, ls0, c, _, _, h0, _⟩ := h
    exact h0
  exact ⟨fun vs H Q E h => absurd h (no vs H Q E), fun A outer s H args us vs Q E _ _ _ _ h => absurd h (no vs H Q E)⟩
theorem no_un {k : Nat} {f : Addr} {fd : FuncData} {ps : List Str} : FnOk P w K mg base CX0 k f fd ps (spUn 0) := by
  have no : ∀ vs H Q E, ¬ spUn 0 vs H Q E := fun vs H Q E h => by
    obtain ⟨a, ld, fr, x, t, ls0, c, _, _, h0, _⟩ := h
    exact h0
  exact ⟨fun vs H Q E h => absurd h (no vs H Q E), fun A outer s H args us vs Q E _ _ _ _ h => absurd h (no vs H Q E)⟩
theorem no_do {k : Nat} {f : Addr} {fd : FuncData} {ps : List Str} : FnOk P w K mg base CX0 k f fd ps (spDo 0) := by
  have no : ∀ vs H Q E, ¬ spDo 0 vs H Q E := fun vs H Q E h => by
    obtain ⟨a, fr, j, t, c, _, _, h0, _⟩ := h
    exact h0
  exact ⟨fun vs H Q E h => absurd h (no vs H Q E), fun A outer s H args us vs Q E _ _ _ _ h => absurd h (no vs H Q E)⟩
theorem all_tn (T : Txt K mg) {f1 f2 f3 f4 f5 f6 f7 : Addr} {d1 d2 d3 d4 d5 d6 d7 : FuncData} (F3 : Fun K "_law_made_simple" "_law_made_simple" s_law_made_simple f3 d3) (F4 : Fun K "_law_under" "_law_under" s_law_under f4 d4) (F7 : Fun K "_law_done_to" "_law_done_to" s_law_done_to f7 d7)
    (G_is : FnOk P w K mg base CX0 15 f1 d1 ["term"] (spSimB 14)) (R_law_is_simple_term : Ref K mg "_law_is_simple_term" f1 d1 ["term"]) (G_law_new : FnOk P w K mg base CX0 1 f2 d2 ["fresh"] spNewL) (R_law_new : Ref K mg "_law_new" f2 d2 ["fresh"])
    (G_law_parts : FnOk P w K mg base CX0 1 f5 d5 ["term"] (spKids TrT)) (R_law_parts : Ref K mg "_law_parts" f5 d5 ["term"]) (G_law_behind_lead : FnOk P w K mg base CX0 1 f6 d6 ["lead", "part"] spBeh) (R_law_behind_lead : Ref K mg "_law_behind_lead" f6 d6 ["lead", "part"])
    (R_law_made_simple : Ref K mg "_law_made_simple" f3 d3 ["term", "lead", "fresh"]) (R_law_under : Ref K mg "_law_under" f4 d4 ["term", "x", "lead", "fresh"]) (R_law_done_to : Ref K mg "_law_done_to" f7 d7 ["term", "hand", "fresh"]) : ∀ n : Nat,
    FnOk P w K mg base CX0 (2 * n + 16) f4 d4 ["term", "x", "lead", "fresh"] (spUn n) ∧ FnOk P w K mg base CX0 (2 * n + 17) f3 d3 ["term", "lead", "fresh"] (spMs n) ∧ FnOk P w K mg base CX0 (2 * n + 16) f7 d7 ["term", "hand", "fresh"] (spDo n)
  | 0 => ⟨no_un, no_ms, no_do⟩
  | n + 1 => by
    obtain ⟨U, M, D⟩ := all_tn T F3 F4 F7 G_is R_law_is_simple_term G_law_new R_law_new G_law_parts R_law_parts G_law_behind_lead R_law_behind_lead R_law_made_simple R_law_under R_law_done_to n
    have U1 := ok_un T F4 U R_law_under G_is R_law_is_simple_term G_law_new R_law_new G_law_parts R_law_parts M R_law_made_simple D R_law_done_to
    exact ⟨U1, ok_ms F3 M R_law_made_simple G_is R_law_is_simple_term G_law_new R_law_new U1 R_law_under, ok_do T F7 D R_law_done_to G_is R_law_is_simple_term G_law_new R_law_new G_law_parts R_law_parts M R_law_made_simple U R_law_under G_law_behind_lead R_law_behind_lead⟩
/-! ### _law_turned -/
def spLTd : Sp := fun vs H Q _ => ∃ (p : Addr) (es : List Er) (us : List V), vs = [.ref p] ∧ BkAt H es us p ∧ es.length ≤ 6 ∧ (∀ e ∈ es, HtLe 14 e.2.2 ∧ cnt e.2.2 ≤ 40) ∧ ∀ r H' ts us' c', Same H H' → N.TBkAt H' ts us' r → LwB es ts 0 c' → Q (.ref r) H'
abbrev s_law_turned : Stmt := top 47
theorem scLturned : FnScope ["book", "fresh", "found", "name", "names", "body"] ["book"] (defScope s_law_turned) := ⟨rfl, rfl, rfl, by decide +kernel, rfl, by decide +kernel, by decide +kernel⟩
theorem ok_ltd (T : Txt K mg) {f f1 : Addr} {fd d1 : FuncData} (F : Fun K "_law_turned" "_law_turned" s_law_turned f fd) (G_law_done_to : FnOk P w K mg base CX0 44 f1 d1 ["term", "hand", "fresh"] (spDo 14)) (R_law_done_to : Ref K mg "_law_done_to" f1 d1 ["term", "hand", "fresh"]) : FnOk P w K mg base CX0 45 f fd ["book"] spLTd := by
  refine F.ok scLturned (fun vs H Q E h => ?_) (fun cdv A outer s H vs Q E hr h => ?_)
  · obtain ⟨p, es, us, rfl, _⟩ := h
    rfl
  obtain ⟨p, es, us, rfl, hB, hl6, hc, q⟩ := h
  refine ⟨_, (pss_cons (ps_set (i := 1) scLturned.nd rfl (Or.inl rfl) (pe_lst pa_nil))
    (pss_cons (ps_set (i := 2) scLturned.nd rfl (Or.inl rfl) (pe_lst pa_nil))
    (pss_cons (ps_for PassesOwn.never rfl (pi_tup (pv 0)) (pg_tup rfl (pgs_cons (pg_name (i := 3) scLturned.nd rfl (Or.inl rfl)) (pgs_cons (pg_name (i := 4) scLturned.nd rfl (Or.inl rfl)) (pgs_cons (pg_name (i := 5) scLturned.nd rfl (Or.inl rfl)) pgs_nil)))) (pss_one (ps_expr (pe_bm PySem.F.plainAttrs_list PySem.F.slot_list_append PySem.F.type_list_append mt_append (pv 2) (pa_cons (pe_tup (pa_cons (pv 3) (pa_cons (pv 4) (pa_cons (pe_call G_law_done_to (hr.mono (by omega)) rfl R_law_done_to.m R_law_done_to.k R_law_done_to.b .nil pass0 (pa_cons (pv 5) (pa_cons pe_str (pa_cons (pv 1) pa_nil)))) pa_nil)))) pa_nil)))))
    (pss_one (ps_ret (pe_callTy call_tuple_of (by rfl) T.m_tuple (by decide +kernel) (pa_cons (pv 2) pa_nil))))))), ?_⟩
  refine ⟨sz (by show 0 ≤ 100000; decide), fun fr hfr => ⟨sz (by show 0 ≤ 100000; decide), fun fl hfl => ?_⟩⟩
  have s0 := same_new hfr (.lst [])
  have f0 : upd H fr (.lst []) fr = some (.lst (frL 0)) := upd_same
  generalize upd H fr (.lst []) = H0 at s0 f0 hfl ⊢
  have s1 := same_new hfl (.lst [])
  have f1' := s1 _ _ f0
  have l1 : upd H0 fl (.lst []) fl = some (.lst []) := upd_same
  have nfl : fl ≠ fr := fun z => by rw [z, f0] at hfl; cases hfl
  have hlH : H fl = none := s0.free hfl
  generalize upd H0 fl (.lst []) = H1 at s1 f1' l1 ⊢
  have s01 := s0.trans s1
  refine ⟨_, rfl, p, rfl, ⟨_, SqT.of (s01 _ _ hB.1)⟩, for_tup (K := K) (a := p) (xs := us) (fun i σ H' => ∃ o3 o4 o5 acc ts c, σ = [some (.ref p), some (.ref fr), some (.ref fl), o3, o4, o5] ∧ Same H H' ∧ H' fl = some (.lst acc) ∧ H' fr = some (.lst (frL c)) ∧ c ≤ 80 * i ∧ All2 (N.TErV H') ts acc ∧ LwB (es.take i) ts 0 c) ⟨_, _, _, [], [], 0, rfl, s01, l1, f1', Nat.zero_le _, trivial, by rw [List.take_zero]; rfl⟩ ?_ ?_ ?_⟩
  · rintro i σ H' _ ⟨_, _, _, _, _, _, rfl, sx, _⟩
    exact SqT.of (sx _ _ hB.1)
  · rintro i x σ H2 hx ⟨o3, o4, o5, acc, ts, c, rfl, sx, hfl2, hfr2, hcc, ka, lb⟩
    obtain ⟨e, he, qa, r, b, rfl, g1, g2, g3⟩ := hB.2.get hx
    obtain ⟨hi, hi2⟩ := List.getElem?_eq_some_iff.mp he
    have hee := mem_of_get he
    obtain ⟨c1, c2⟩ := hc e hee
    refine ⟨qa, _, rfl, SqT.of (sx _ _ g1), rfl, _, _, rfl, _, _, rfl, _, _, rfl, rfl, ?_⟩
    refine ⟨_, rfl, .inl ⟨rfl, _, SqL.of hfl2⟩, _, rfl, _, rfl, _, rfl, _, rfl, b, fr, "home", e.2.2, c, rfl, g3.tk (tk_same sx), c1, by decide, hfr2, by omega, by omega, fun H3 bb ls q0 c' k1 k2 k3 k4 k5 => ?_⟩
    have tk3 := But1.tkF hfr2 k3
    have hfl3 := k3 _ _ nfl hfl2
    have r3 := tk3 _ _ (sx _ _ g2)
    have s3 : Same H H3 := fun y o hy => k3 _ _ (fun z => by rw [z, hfr] at hy; cases hy) (sx _ _ hy)
    refine ⟨sz (by show 3 ≤ 100000; decide), fun t1 ht1 => ?_⟩
    have s4 := same_new ht1 (.tup [.str e.1, .ref r, .ref bb])
    have h4 : upd H3 t1 (.tup [.str e.1, .ref r, .ref bb]) t1 = some (.tup [.str e.1, .ref r, .ref bb]) := upd_same
    have hfl4 := s4 _ _ hfl3
    have hfr4 := s4 _ _ k4
    have r4 := s4 _ _ r3
    have ka4 := (ka.imp fun _ _ z => N.TErV.tk tk3 z).imp fun _ _ z => N.TErV.tk (tk_same s4) z
    have k54 := PAt.tk (tk_same s4) k5
    have s34 := s3.trans s4
    generalize upd H3 t1 (.tup [.str e.1, .ref r, .ref bb]) = H4 at s4 h4 hfl4 hfr4 r4 ka4 k54 s34 ⊢
    have hle := ka4.len
    have hbl : ∀ {es : List Er} {ts : List N.TEr} {c c' : Nat}, LwB es ts c c' → ts.length = es.length := by
      intro es
      induction es with
      | nil => intro ts c c' h; cases ts with
        | nil => rfl
        | cons _ _ => exact h.elim
      | cons e r ih => intro ts c c' h; cases ts with
        | nil => exact h.elim
        | cons t tr =>
          obtain ⟨c1, _, h2⟩ := h
          rw [List.length_cons, List.length_cons, ih h2]
    have hlt := hbl lb
    rw [List.length_take] at hlt
    refine ⟨fl, acc, _, rfl, rfl, hfl4, Nat.lt_of_le_of_lt (m := 6) (by omega) (by decide), ?_⟩
    have tk5 := tk_put (o := .lst (acc ++ [.ref t1])) hfl4
    refine ⟨_, _, _, acc ++ [.ref t1], ts ++ [(e.1, e.2.1, putAh ls q0)], c', rfl, same_mut s34 hlH, upd_same, by rw [upd_ne (Ne.symm nfl)]; exact hfr4, by omega, (ka4.imp fun _ _ z => N.TErV.tk tk5 z).app ⟨⟨t1, r, bb, rfl, tk5 _ _ h4, tk5 _ _ r4, PAt.tk tk5 k54⟩, trivial⟩, ?_⟩
    rw [List.take_succ_eq_append_getElem hi, hi2]
    exact lb.snoc ⟨rfl, rfl, ls, q0, rfl, k1⟩
  · rintro σ H2 ⟨o3, o4, o5, acc, ts, c, rfl, sx, hfl2, hfr2, hcc, ka, lb⟩
    rw [hB.2.len, List.take_length] at lb
    refine ⟨_, rfl, fl, acc, rfl, .inl ⟨SqL.of hfl2, fun t0 ht0 => ?_⟩⟩
    have s2 := same_new ht0 (.tup acc)
    exact q t0 _ ts acc c (sx.trans s2) ⟨upd_same, ka.imp fun _ _ z => N.TErV.tk (tk_same s2) z⟩ lb
end
end KB

set_option pp.maxSteps 400
namespace KB
open PySem L2 HT LamX NdefX

/-! ### the book that tells -/
def tellN : Nat → Tm → Tm
  | 0, t => t
  | n + 1, t => mkL .tell [tellN n t]
def plusT (a b : Tm) : Tm := mkL .plus [a, b]
def toldT (g : Str) : Tm := plusT (plusT (tellN 8 (mkL (.ask g) [])) (tellN 8 (mkL (.ask g) []))) (plusT (tellN 8 (mkL (.ask g) [])) (tellN 8 (mkL (.ask g) [])))
def toldBk (f g x y : Str) : List Er := [(f, [x, y], toldT g), (g, [], mkL .tell [mkL (.num 7) []])]
theorem tellN_cnt (t : Tm) : ∀ n, cnt (tellN n t) = n + cnt t
  | 0 => (Nat.zero_add _).symm
  | n + 1 => by
    show cnt (mkL .tell [tellN n t]) = _
    rw [cnt_mkL, cnts_cons, tellN_cnt t n]
    show 1 + (n + cnt t + 0) = _
    omega
theorem tellN_ok {t : Tm} (h : okT t) : ∀ n, okT (tellN n t)
  | 0 => h
  | n + 1 => ok_mkL trivial fun u hu => by rw [List.mem_singleton.mp hu]; exact tellN_ok h n
theorem tellN_ht {t : Tm} {m : Nat} (h : HtLe m t) : ∀ n, HtLe (m + n) (tellN n t)
  | 0 => h
  | n + 1 => ht_mkL fun u hu => by rw [List.mem_singleton.mp hu]; exact tellN_ht h n
theorem tellN_sc {hd : Str → Option Nat} {t : Tm} {xs : List Str} (h : okS hd t xs) : ∀ n, okS hd (tellN n t) xs
  | 0 => h
  | n + 1 => sc_mkL trivial fun i u hu => by
    have : u = tellN n t := by
      match i, hu with
      | 0, hu => exact (Option.some.inj hu).symm
    rw [this]
    exact tellN_sc h n
theorem tellN_lt {t : Tm} (h : letsOf t = []) : ∀ n, letsOf (tellN n t) = []
  | 0 => h
  | n + 1 => by
    show letsOf (mkL .tell [tellN n t]) = []
    rw [lt_mkL]
    show [] ++ ([letsOf (tellN n t)].flatten) = []
    rw [tellN_lt h n]
    rfl
theorem two_mem2 {a b u : Tm} {C : Tm → Prop} (ha : C a) (hb : C b) (h : u ∈ [a, b]) : C u := by
  rcases List.mem_cons.mp h with z | z
  · rw [z]; exact ha
  · rw [List.mem_singleton.mp z]; exact hb
theorem plus_sc {hd : Str → Option Nat} {a b : Tm} {xs : List Str} (ha : okS hd a xs) (hb : okS hd b xs) : okS hd (plusT a b) xs := sc_mkL trivial fun i u hu => by
  match i, hu with
  | 0, hu => rw [← Option.some.inj hu]; exact ha
  | 1, hu => rw [← Option.some.inj hu]; exact hb
theorem plus_lt {a b : Tm} (ha : letsOf a = []) (hb : letsOf b = []) : letsOf (plusT a b) = [] := by
  show letsOf (mkL .plus [a, b]) = []
  rw [lt_mkL]
  show [] ++ ([letsOf a, letsOf b].flatten) = []
  rw [ha, hb]
  rfl
theorem plus_cnt (a b : Tm) : cnt (plusT a b) = 1 + (cnt a + cnt b) := by
  show cnt (mkL .plus [a, b]) = _
  rw [cnt_mkL, cnts_cons, cnts_cons]
  rfl
def toldH (f g : Str) : Str → Option Nat := fun z => if z = f then some 2 else if z = g then some 0 else none
theorem told_gd {f g x y : Str} (wf : isW f = true) (wg : isW g = true) (wx : isW x = true) (wy : isW y = true) (nd : [f, g, x, y].Nodup) : (∀ e ∈ toldBk f g x y, GdE (toldH f g) e) ∧ GdB (toldBk f g x y) := by
  have nfg : f ≠ g := fun z => (List.nodup_cons.mp nd).1 (by rw [z]; exact List.mem_cons_self)
  have nxy : x ≠ y := fun z => (List.nodup_cons.mp (List.nodup_cons.mp (List.nodup_cons.mp nd).2).2).1 (by rw [z]; exact List.mem_cons_self)
  have hg : toldH f g g = some 0 := by
    unfold toldH
    rw [if_neg (Ne.symm nfg), if_pos rfl]
  have hf : toldH f g f = some 2 := if_pos rfl
  have ask_ok : okT (mkL (.ask g) []) := ok_mkL wg (fun _ z => nomatch z)
  have ask_ht : HtLe 1 (mkL (.ask g) []) := ht_mkL (fun _ z => nomatch z)
  have ask_sc : ∀ xs, okS (toldH f g) (mkL (.ask g) []) xs := fun xs => sc_mkL hg (fun i t h => nomatch h)
  have t8 := tellN_ok ask_ok 8
  have p1 : okT (plusT (tellN 8 (mkL (.ask g) [])) (tellN 8 (mkL (.ask g) []))) := ok_mkL trivial fun u hu => two_mem2 (C := okT) t8 t8 hu
  have h8 := tellN_ht ask_ht 8
  have q1 : HtLe 10 (plusT (tellN 8 (mkL (.ask g) [])) (tellN 8 (mkL (.ask g) []))) := ht_mkL fun u hu => two_mem2 (C := HtLe 9) h8 h8 hu
  have s8 : ∀ xs, okS (toldH f g) (tellN 8 (mkL (.ask g) [])) xs := fun xs => tellN_sc (ask_sc xs) 8
  have l8 : letsOf (tellN 8 (mkL (.ask g) [])) = [] := tellN_lt (by rw [lt_mkL]; rfl) 8
  have c8 : cnt (tellN 8 (mkL (.ask g) [])) = 9 := by
    rw [tellN_cnt, cnt_mkL]
    rfl
  have e1 : GdE (toldH f g) (f, [x, y], toldT g) := ⟨wf, fun z hz => by
      rcases List.mem_cons.mp hz with w | w
      · rw [w]; exact wx
      · rw [List.mem_singleton.mp w]; exact wy, by show 2 ≤ 4; decide, ok_mkL trivial fun u hu => two_mem2 (C := okT) p1 p1 hu, by
      show cnt (plusT _ _) ≤ 40
      rw [plus_cnt, plus_cnt, c8]
      decide, (ht_mkL (n := 10) fun u hu => two_mem2 (C := HtLe 10) q1 q1 hu).le (by decide), hf, plus_sc (plus_sc (s8 _) (s8 _)) (plus_sc (s8 _) (s8 _)), by
      show ([x, y] ++ letsOf (plusT _ _)).Nodup
      rw [plus_lt (plus_lt l8 l8) (plus_lt l8 l8), List.append_nil]
      exact List.nodup_cons.mpr ⟨fun z => nxy (List.mem_singleton.mp z), List.nodup_cons.mpr ⟨(fun z => nomatch z), List.nodup_nil⟩⟩⟩
  have e2 : GdE (toldH f g) (g, [], mkL .tell [mkL (.num 7) []]) := ⟨wg, (fun _ z => nomatch z), by show 0 ≤ 4; decide, ok_mkL trivial fun u hu => by
      rw [List.mem_singleton.mp hu]
      exact ok_mkL ⟨by decide, by decide⟩ (fun _ z => nomatch z), by
      show cnt (mkL .tell [mkL (.num 7) []]) ≤ 40
      rw [cnt_mkL, cnts_cons, cnt_mkL]
      decide, (ht_mkL (n := 1) fun u hu => by
        rw [List.mem_singleton.mp hu]
        exact ht_mkL (fun _ z => nomatch z)).le (by decide), hg, sc_mkL trivial fun i u hu => by
      have : u = mkL (.num 7) [] := by
        match i, hu with
        | 0, hu => exact (Option.some.inj hu).symm
      rw [this]
      exact sc_mkL trivial (fun i t h => nomatch h), by
      show ([] ++ letsOf (mkL .tell [mkL (.num 7) []])).Nodup
      rw [lt_mkL]
      show ([] ++ ([] ++ [letsOf (mkL (.num 7) [])].flatten)).Nodup
      rw [lt_mkL]
      exact List.nodup_nil⟩
  have all : ∀ e ∈ toldBk f g x y, GdE (toldH f g) e := fun e he => by
    rcases List.mem_cons.mp he with z | z
    · rw [z]; exact e1
    · rw [List.mem_singleton.mp z]; exact e2
  refine ⟨all, ⟨by show 1 ≤ 2; decide, by show 2 ≤ 6; decide⟩, List.nodup_cons.mpr ⟨fun z => nfg (List.mem_singleton.mp z), List.nodup_cons.mpr ⟨(fun z => nomatch z), List.nodup_nil⟩⟩, toldH f g, all, fun z n h => ?_⟩
  unfold toldH at h
  split at h
  · rename_i e; rw [e]; exact List.mem_cons_self
  · split at h
    · rename_i e; rw [e]; exact List.mem_cons_of_mem _ List.mem_cons_self
    · cases h
section
variable {P : Program} {w : World} {K : PySem.W.Frag} {mg : Str → Option Value} {base : Heap}
def spTold : Sp := fun vs H Q _ => ∃ (wl : Addr) (f g x y : Str), vs = [.ref wl] ∧ H wl = some (.lst [.str f, .str g, .str x, .str y]) ∧ ∀ p us H', Same H H' → BkAt H' (toldBk f g x y) us p → Q (.ref p) H'
abbrev s_law_told_book : Stmt := top 52
theorem scLtold_book : FnScope ["words", "f", "g", "x", "y", "term", "k", "body"] ["words"] (defScope s_law_told_book) := ⟨rfl, rfl, rfl, by decide +kernel, rfl, by decide +kernel, by decide +kernel⟩
theorem ok_told (T : Txt K mg) {f0 : Addr} {fd : FuncData} (F : Fun K "_law_told_book" "_law_told_book" s_law_told_book f0 fd) : FnOk P w K mg base CX0 1 f0 fd ["words"] spTold := by
  refine F.ok scLtold_book (fun vs H Q E h => ?_) (fun cdv A outer s H vs Q E hr h => ?_)
  · obtain ⟨wl, f, g, x, y, rfl, _⟩ := h
    rfl
  obtain ⟨wl, f, g, x, y, rfl, hw, q⟩ := h
  refine ⟨_, (pss_cons (ps_asg (pe_slice sl_list (pv 0) po_none (po_some pe_int)) (pg_lst rfl (pgs_cons (pg_name (i := 1) scLtold_book.nd rfl (Or.inl rfl)) (pgs_cons (pg_name (i := 2) scLtold_book.nd rfl (Or.inl rfl)) (pgs_cons (pg_name (i := 3) scLtold_book.nd rfl (Or.inl rfl)) (pgs_cons (pg_name (i := 4) scLtold_book.nd rfl (Or.inl rfl)) pgs_nil))))))
    (pss_cons (ps_set (i := 5) scLtold_book.nd rfl (Or.inl rfl) (pe_tup (pa_cons pe_str (pa_cons (pv 2) (pa_cons (pe_tup pa_nil) pa_nil)))))
    (pss_cons (ps_for PassesOwn.never rfl (pi_range1 rfl T.m_range (pa_cons pe_int pa_nil)) (pg_name (i := 6) scLtold_book.nd rfl (Or.inl rfl)) (pss_one (ps_set (i := 5) scLtold_book.nd rfl (Or.inl rfl) (pe_tup (pa_cons pe_str (pa_cons (pv 5) pa_nil))))))
    (pss_cons (ps_set (i := 7) scLtold_book.nd rfl (Or.inl rfl) (pe_tup (pa_cons pe_str (pa_cons (pe_tup (pa_cons pe_str (pa_cons (pv 5) (pa_cons (pv 5) pa_nil)))) (pa_cons (pe_tup (pa_cons pe_str (pa_cons (pv 5) (pa_cons (pv 5) pa_nil)))) pa_nil)))))
    (pss_one (ps_ret (pe_tup (pa_cons (pe_tup (pa_cons (pv 1) (pa_cons (pe_tup (pa_cons (pv 3) (pa_cons (pv 4) pa_nil))) (pa_cons (pv 7) pa_nil)))) (pa_cons (pe_tup (pa_cons (pv 2) (pa_cons (pe_tup pa_nil) (pa_cons (pe_tup (pa_cons pe_str (pa_cons (pe_tup (pa_cons pe_str (pa_cons pe_int pa_nil))) pa_nil))) pa_nil)))) pa_nil))))))))), ?_⟩
  refine ⟨_, rfl, _, rfl, wl, _, rfl, SqL.of hw, fun p1 hp1 => ?_⟩
  have ec : cutV [V.str f, .str g, .str x, .str y] none (some 4) = [.str f, .str g, .str x, .str y] := rfl
  have s0 := same_new hp1 (.lst (cutV [V.str f, .str g, .str x, .str y] none (some 4)))
  refine ⟨p1, _, rfl, SqL.of upd_same, by rw [ec]; rfl, ?_⟩
  rw [ec] at s0 ⊢
  refine ⟨_, _, rfl, _, _, rfl, _, _, rfl, _, _, rfl, rfl, ?_⟩
  generalize upd H p1 (.lst [V.str f, .str g, .str x, .str y]) = H0 at s0 ⊢
  -- the ask
  refine ⟨_, rfl, sz (by show 0 ≤ 100000; decide), fun q1 hq1 => ⟨sz (by show 3 ≤ 100000; decide), fun q2 hq2 => ?_⟩⟩
  have s1 := same_new hq1 (.tup [])
  have h1 : upd H0 q1 (.tup []) q1 = some (.tup []) := upd_same
  generalize upd H0 q1 (.tup []) = H1 at s1 h1 hq2 ⊢
  have s2 := same_new hq2 (.tup [V.str "ask", .str g, .ref q1])
  have a2 : At (upd H1 q2 (.tup [V.str "ask", .str g, .ref q1])) (mkL (.ask g) []) q2 := at_mkL (h := .ask g) (vs := []) ⟨Nat.zero_le _, q1, upd_same, s2 _ _ h1⟩ trivial
  generalize upd H1 q2 (.tup [V.str "ask", .str g, .ref q1]) = H2 at s2 a2 ⊢
  have s02 := s0.trans (s1.trans s2)
  -- eight tells
  refine ⟨8, rfl, by decide, by decide, for_range (lo := 0) (n := 8) (fun i σ H' => ∃ b o6, σ = [some (.ref wl), some (.str f), some (.str g), some (.str x), some (.str y), some (.ref b), o6, none] ∧ Same H2 H' ∧ At H' (tellN i (mkL (.ask g) [])) b) ⟨q2, _, rfl, Same.refl _, a2⟩ ?_ ?_⟩
  · rintro i σ H3 hi ⟨b, o6, rfl, s3, a3⟩
    refine ⟨_, rfl, sz (by show 2 ≤ 100000; decide), fun t1 ht1 => ?_⟩
    have s4 := same_new ht1 (.tup [V.str "tell", .ref b])
    exact ⟨t1, _, rfl, s3.trans s4, at_mkL (h := .tell) (vs := [.ref b]) ⟨rfl, upd_same⟩ ⟨⟨b, rfl, a3.tk (tk_same s4)⟩, trivial⟩⟩
  rintro σ H3 ⟨b, o6, rfl, s3, a3⟩
  have s03 := s02.trans s3
  -- the body
  refine ⟨_, rfl, _, rfl, sz (by show 3 ≤ 100000; decide), fun t1 ht1 => ⟨_, rfl, _, rfl, sz (by show 3 ≤ 100000; decide), fun t2 ht2 => ⟨sz (by show 3 ≤ 100000; decide), fun t3 ht3 => ?_⟩⟩⟩
  have s4 := same_new ht1 (.tup [V.str "plus", .ref b, .ref b])
  have a4 : At (upd H3 t1 (.tup [V.str "plus", .ref b, .ref b])) (plusT (tellN 8 (mkL (.ask g) [])) (tellN 8 (mkL (.ask g) []))) t1 := at_mkL (h := .plus) (vs := [.ref b, .ref b]) ⟨rfl, upd_same⟩ ⟨⟨b, rfl, a3.tk (tk_same s4)⟩, ⟨b, rfl, a3.tk (tk_same s4)⟩, trivial⟩
  have a3' := a3.tk (tk_same s4)
  generalize upd H3 t1 (.tup [V.str "plus", .ref b, .ref b]) = H4 at s4 a4 a3' ht2 ht3 ⊢
  have s5 := same_new ht2 (.tup [V.str "plus", .ref b, .ref b])
  have a5 : At (upd H4 t2 (.tup [V.str "plus", .ref b, .ref b])) (plusT (tellN 8 (mkL (.ask g) [])) (tellN 8 (mkL (.ask g) []))) t2 := at_mkL (h := .plus) (vs := [.ref b, .ref b]) ⟨rfl, upd_same⟩ ⟨⟨b, rfl, a3'.tk (tk_same s5)⟩, ⟨b, rfl, a3'.tk (tk_same s5)⟩, trivial⟩
  have a45 := a4.tk (tk_same s5)
  generalize upd H4 t2 (.tup [V.str "plus", .ref b, .ref b]) = H5 at s5 a5 a45 ht3 ⊢
  have s6 := same_new ht3 (.tup [V.str "plus", .ref t1, .ref t2])
  have a6 : At (upd H5 t3 (.tup [V.str "plus", .ref t1, .ref t2])) (toldT g) t3 := at_mkL (h := .plus) (vs := [.ref t1, .ref t2]) ⟨rfl, upd_same⟩ ⟨⟨t1, rfl, a45.tk (tk_same s6)⟩, ⟨t2, rfl, a5.tk (tk_same s6)⟩, trivial⟩
  generalize upd H5 t3 (.tup [V.str "plus", .ref t1, .ref t2]) = H6 at s6 a6 ⊢
  have s06 := s03.trans (s4.trans (s5.trans s6))
  -- the book
  refine ⟨_, rfl, _, rfl, _, rfl, sz (by show 2 ≤ 100000; decide), fun u1 hu1 => ⟨_, rfl, sz (by show 3 ≤ 100000; decide), fun u2 hu2 => ?_⟩⟩
  refine ⟨_, rfl, sz (by show 0 ≤ 100000; decide), fun u3 hu3 => ⟨sz (by show 2 ≤ 100000; decide), fun u4 hu4 => ⟨sz (by show 2 ≤ 100000; decide), fun u5 hu5 => ⟨sz (by show 3 ≤ 100000; decide), fun u6 hu6 => ⟨sz (by show 2 ≤ 100000; decide), fun u7 hu7 => ?_⟩⟩⟩⟩⟩
  have r1 := same_new hu1 (.tup [V.str x, .str y])
  have k1 : upd H6 u1 (.tup [V.str x, .str y]) u1 = some (.tup [V.str x, .str y]) := upd_same
  generalize upd H6 u1 (.tup [V.str x, .str y]) = G1 at r1 k1 hu2 hu3 hu4 hu5 hu6 hu7 ⊢
  have r2 := same_new hu2 (.tup [V.str f, .ref u1, .ref t3])
  have k2 : upd G1 u2 (.tup [V.str f, .ref u1, .ref t3]) u2 = some (.tup [V.str f, .ref u1, .ref t3]) := upd_same
  generalize upd G1 u2 (.tup [V.str f, .ref u1, .ref t3]) = G2 at r2 k2 hu3 hu4 hu5 hu6 hu7 ⊢
  have r3 := same_new hu3 (.tup [])
  have k3 : upd G2 u3 (.tup []) u3 = some (.tup []) := upd_same
  generalize upd G2 u3 (.tup []) = G3 at r3 k3 hu4 hu5 hu6 hu7 ⊢
  have r4 := same_new hu4 (.tup [V.str "number", .int 7])
  have k4 : At (upd G3 u4 (.tup [V.str "number", .int 7])) (mkL (.num 7) []) u4 := at_mkL (h := .num 7) (vs := []) ⟨rfl, upd_same⟩ trivial
  generalize upd G3 u4 (.tup [V.str "number", .int 7]) = G4 at r4 k4 hu5 hu6 hu7 ⊢
  have r5 := same_new hu5 (.tup [V.str "tell", .ref u4])
  have k5 : At (upd G4 u5 (.tup [V.str "tell", .ref u4])) (mkL .tell [mkL (.num 7) []]) u5 := at_mkL (h := .tell) (vs := [.ref u4]) ⟨rfl, upd_same⟩ ⟨⟨u4, rfl, k4.tk (tk_same r5)⟩, trivial⟩
  generalize upd G4 u5 (.tup [V.str "tell", .ref u4]) = G5 at r5 k5 hu6 hu7 ⊢
  have r6 := same_new hu6 (.tup [V.str g, .ref u3, .ref u5])
  have k6 : upd G5 u6 (.tup [V.str g, .ref u3, .ref u5]) u6 = some (.tup [V.str g, .ref u3, .ref u5]) := upd_same
  generalize upd G5 u6 (.tup [V.str g, .ref u3, .ref u5]) = G6 at r6 k6 hu7 ⊢
  have r7 := same_new hu7 (.tup [V.ref u2, .ref u6])
  have k7 : upd G6 u7 (.tup [V.ref u2, .ref u6]) u7 = some (.tup [V.ref u2, .ref u6]) := upd_same
  generalize upd G6 u7 (.tup [V.ref u2, .ref u6]) = G7 at r7 k7 ⊢
  have r67 := r6.trans r7
  have r37 := r3.trans (r4.trans (r5.trans r67))
  have r27 := r2.trans r37
  have r17 := r1.trans r27
  exact q u7 [.ref u2, .ref u6] G7 (s06.trans r17) ⟨k7, ⟨u2, u1, t3, rfl, r37 _ _ k2, r27 _ _ k1, a6.tk (tk_same r17)⟩, ⟨u6, u3, u5, rfl, r7 _ _ k6, (r4.trans (r5.trans r67)) _ _ k3, k5.tk (tk_same r67)⟩, trivial⟩
end
end KB

set_option pp.maxSteps 400
namespace KB
open PySem L2 HT LamX NdefX

theorem eqV_str (x y : Str) : eqV (.str x) (.str y) = decide (V.str x = V.str y) := by
  unfold eqV
  first | rfl | (by_cases c : x = y <;> simp [c])
theorem inV_mem {x : Str} {xs : List Str} (h : x ∈ xs) : inV (.str x) (xs.map V.str) = true := by
  unfold inV
  rw [List.any_eq_true]
  exact ⟨_, List.mem_map.mpr ⟨x, h, rfl⟩, by rw [eqV_str]; exact decide_eq_true rfl⟩
theorem inV_not {x : Str} {xs : List Str} (h : x ∉ xs) : inV (.str x) (xs.map V.str) = false := by
  cases e : inV (.str x) (xs.map V.str) with
  | false => rfl
  | true =>
    exfalso
    unfold inV at e
    rw [List.any_eq_true] at e
    obtain ⟨v, hv, e2⟩ := e
    obtain ⟨y, hy, rfl⟩ := List.mem_map.mp hv
    rw [eqV_str] at e2
    have e3 := V.str.inj (of_decide_eq_true e2)
    exact h (e3 ▸ hy)
def lettersW : Str := "abcdefghijklmnopqrstuvwxyz"
theorem letter_in : ∀ c : Nat, 97 ≤ c → c ≤ 122 → (!(Builtin.Str.occurrences lettersW ⟨#[c]⟩ 0 lettersW.length 1).isEmpty) = true := by
  have h : ∀ k < 26, (!(Builtin.Str.occurrences lettersW ⟨#[97 + k]⟩ 0 lettersW.length 1).isEmpty) = true := by decide +kernel
  intro c h1 h2
  have := h (c - 97) (by omega)
  rw [show 97 + (c - 97) = c by omega] at this
  exact this
section
variable {P : Program} {w : World} {K : PySem.W.Frag} {mg : Str → Option Value} {base : Heap}
/-! ### _law_is_word -/
def spIw : Sp := fun vs H Q _ => ∃ z : Str, vs = [.str z] ∧ isW z = true ∧ ∀ H', Same H H' → Q (.bl true) H'
abbrev s_law_is_word : Stmt := top 48
theorem scLis_word : FnScope ["word", "sign"] ["word"] (defScope s_law_is_word) := ⟨rfl, rfl, rfl, by decide +kernel, rfl, by decide +kernel, by decide +kernel⟩
theorem ok_iw (T : Txt K mg) {f : Addr} {fd : FuncData} (F : Fun K "_law_is_word" "_law_is_word" s_law_is_word f fd) : FnOk P w K mg base CX0 1 f fd ["word"] spIw := by
  refine F.ok scLis_word (fun vs H Q E h => ?_) (fun cdv A outer s H vs Q E hr h => ?_)
  · obtain ⟨z, rfl, _⟩ := h
    rfl
  obtain ⟨z, rfl, hz, q⟩ := h
  refine ⟨_, (pss_cons (ps_if (PW.pt (pw_or (pt_not (pt_val (pe_callB call_isi (by rfl) T.m_isinstance (by decide +kernel) (pa_cons (pv 0) (pa_cons (pe_bltn (v := .ty "str") rfl T.m_str (by decide +kernel) rfl) pa_nil))))) (pw_or1 (pt_not (pt_chain op_le op_le pe_int (pe_callB call_len (by rfl) T.m_len PySem.boot_len (pa_cons (pv 0) pa_nil)) pe_int))))) (pss_one (ps_ret pe_bl)) pss_nil)
    (pss_cons (ps_if (pt_cmpR op_in_seq (pv 0) (pe_tup (pa_cons pe_str (pa_cons pe_str (pa_cons pe_str (pa_cons pe_str (pa_cons pe_str (pa_cons pe_str (pa_cons pe_str (pa_cons pe_str pa_nil))))))))) rfl) (pss_one (ps_ret pe_bl)) pss_nil)
    (pss_one (ps_ret (pe_callB (cr_all rfl) (by rfl) T.m_all (by decide +kernel) (pa_cons (pe_lc (own := [("sign", 1)]) (g := gName 1) (by rfl) scLis_word.nd (pi_str (pv 0)) (blkOk_by (own := [("sign", 1)]) (N := ["word", "sign"]) (sc := defScope s_law_is_word) (by decide +kernel)) (fun _ _ _ _ _ => (pg_name (i := 1) scLis_word.nd rfl (Or.inl rfl))) (fun _ _ _ _ _ => pts_nil) (fun _ _ _ _ _ => (pe_cmpR op_in_str (pv 1) pe_str rfl))) pa_nil)))))), ?_⟩
  have hz0 := hz
  unfold isW at hz0
  rw [Bool.and_eq_true, Bool.and_eq_true, Bool.and_eq_true] at hz0
  obtain ⟨⟨hk, hl1, hl8⟩, hs⟩ := hz0
  have hl1 := of_decide_eq_true hl1
  have hl8 := of_decide_eq_true hl8
  have lenW : LenV K (.str z) H z.length := ⟨Nat.le_trans hl8 (by decide), rfl⟩
  refine ⟨_, rfl, .str z, .ty "str", .type "str", .type "str", true, rfl, .ty "str", .base (.str z), kit_ty (by decide +kernel), _, rfl, ?_⟩
  refine iteF ⟨_, rfl, _, _, rfl, lenW, _, _, rfl, rfl, _, rfl, ?_⟩
  refine itT (decide_eq_true (by omega)) ⟨_, _, rfl, rfl, _, rfl, ?_⟩
  refine itF (by rw [decide_eq_true (show ((z.length : Nat) : Int) ≤ 8 by omega)]; rfl) ?_
  refine ⟨_, rfl, sz (by show 8 ≤ 100000; decide), fun t1 ht1 => ?_⟩
  have s1 := same_new ht1 (.tup [V.str "let", .str "be", .str "in", .str "tell", .str "if", .str "then", .str "else", .str "home"])
  have g1 : upd H t1 (.tup [V.str "let", .str "be", .str "in", .str "tell", .str "if", .str "then", .str "else", .str "home"]) t1 = some (.tup [V.str "let", .str "be", .str "in", .str "tell", .str "if", .str "then", .str "else", .str "home"]) := upd_same
  generalize upd H t1 (.tup [V.str "let", .str "be", .str "in", .str "tell", .str "if", .str "then", .str "else", .str "home"]) = H1 at s1 g1
  have sub : ∀ y ∈ (["let", "be", "in", "tell", "if", "then", "else", "home"] : List Str), y ∈ keptW := by decide +kernel
  have hno : z ∉ (["let", "be", "in", "tell", "if", "then", "else", "home"] : List Str) := fun hm => by
    have h1 : keptW.contains z = true := by simpa using sub z hm
    rw [h1] at hk
    exact absurd hk Bool.false_ne_true
  refine ⟨t1, _, rfl, .inr (SqT.of g1), rfl, rfl, _, rfl, itF (inV_not hno) ?_⟩
  refine ⟨_, rfl, z, rfl, fun D hD => lc_it (walk_str (z := z)) (fun i H' => Same H1 H' ∧ H' D = some (.lst ((List.replicate i true).map V.bl))) ⟨same_new hD _, upd_same⟩ (fun _ _ _ _ => trivial) ?_ ?_⟩
  · rintro i x H3 H4 hi ⟨s3, h3⟩ ⟨rfl, c, hc, rfl⟩
    have hcm : c ∈ z.cps.toList := Array.mem_toList_iff.mpr (Array.mem_of_getElem? hc)
    have hsm := List.all_eq_true.mp hs c hcm
    unfold small at hsm
    rw [Bool.and_eq_true] at hsm
    have e := letter_in c (of_decide_eq_true hsm.1) (of_decide_eq_true hsm.2)
    refine ⟨rfl, ?_⟩
    dsimp only [tYes]
    refine iteT ⟨_, rfl, ⟨#[c]⟩, _, rfl, rfl, ?_⟩
    have hz8 : z.cps.size ≤ 8 := hl8
    refine ⟨_, h3, Nat.lt_of_le_of_lt (m := 8) (by rw [List.length_map, List.length_replicate]; omega) (by decide), same_mut s3 hD, ?_⟩
    rw [upd_same, List.replicate_succ', List.map_append]
    show some (HO.lst (_ ++ [V.bl (!(Builtin.Str.occurrences lettersW ⟨#[c]⟩ 0 lettersW.length 1).isEmpty)])) = _
    rw [e]
    rfl
  · rintro H3 ⟨s3, h3⟩
    refine ⟨D, _, rfl, SqL.of h3, ?_⟩
    have e : (List.replicate z.cps.size true).all id = true := by simp
    rw [e]
    exact q H3 (s1.trans s3)
end
end KB

set_option pp.maxSteps 400
namespace KB
open PySem L2 HT LamX NdefX

def EnT (H : Hp) (t : Tm) (v : V) : Prop := ∃ q r b, v = .ref q ∧ H q = some (.tup [.ref r, .ref b]) ∧ At H t b
theorem EnT.tk {H H' : Hp} (k : TK H H') {t : Tm} {v : V} (h : EnT H t v) : EnT H' t v := let ⟨q, r, b, e, a, c⟩ := h; ⟨q, r, b, e, k _ _ a, c.tk k⟩
theorem preT_len (t : Tm) : (TrT.pre t).length = cnt t := by
  show (List.map _ (TrT.pl t)).length = _
  rw [List.length_map]
  exact TrT.pl_len _ t (Nat.le_refl _)
theorem presT_len : ∀ ts : List Tm, (TrT.pres ts).length = cnts ts
  | [] => rfl
  | t :: r => by
    rw [TrT.pres_cons, List.length_append, preT_len, presT_len r]
    rfl
theorem pre_nms : ∀ (n : Nat) (t : Tm), cnt t ≤ n → ∀ u ∈ TrT.pre t, ∀ y ∈ N.nmsT u, y ∈ N.nmsT t := by
  intro n
  induction n with
  | zero =>
    intro t h
    have := cnt_pos t
    omega
  | succ n ih =>
    intro t hn u hu y hy
    rw [TrT.pre_mk] at hu
    rcases List.mem_cons.mp hu with z | z
    · rw [← z]; exact hy
    · have : ∀ ts : List Tm, (∀ k ∈ ts, k ∈ kidsT t) → u ∈ TrT.pres ts → y ∈ N.nmsT t := by
        intro ts
        induction ts with
        | nil => intro _ h; cases h
        | cons k r ih2 =>
          intro hk h
          rw [TrT.pres_cons] at h
          have hkm := hk k List.mem_cons_self
          rcases List.mem_append.mp h with w | w
          · exact N.nms_kid hkm y (ih k (by have := cnt_kid hkm; omega) u w y hy)
          · exact ih2 (fun a ha => hk a (List.mem_cons_of_mem _ ha)) w
      exact this (kidsT t) (fun k h => h) z
section
variable {P : Program} {w : World} {K : PySem.W.Frag} {mg : Str → Option Value} {base : Heap}
/-! ### _law_terms -/
def spTms (n : Nat) : Sp := fun vs H Q _ => ∃ (a pl : Addr) (t : Tm) (pre : List V), vs = [.ref a, .ref pl] ∧ At H t a ∧ HtLe n t ∧ H pl = some (.tup pre) ∧ cnt t ≤ 500 ∧ pre.length + n ≤ 500 ∧
  ∀ p' H' its, H p' = none → Same H H' → H' p' = some (.lst its) → All2 (EnT H') (TrT.pre t) its → Q (.ref p') H'
abbrev s_law_terms : Stmt := top 50
theorem scLterms : FnScope ["term", "place", "found", "k", "part"] ["term", "place"] (defScope s_law_terms) := ⟨rfl, rfl, rfl, by decide +kernel, rfl, by decide +kernel, by decide +kernel⟩
theorem ok_tms (T : Txt K mg) {n : Nat} {f g1 : Addr} {fd d1 : FuncData} (F : Fun K "_law_terms" "_law_terms" s_law_terms f fd) (G_law_terms : FnOk P w K mg base CX0 (n + 1) f fd ["term", "place"] (spTms n)) (R_law_terms : Ref K mg "_law_terms" f fd ["term", "place"])
    (G_law_parts : FnOk P w K mg base CX0 1 g1 d1 ["term"] (spKids TrT)) (R_law_parts : Ref K mg "_law_parts" g1 d1 ["term"]) : FnOk P w K mg base CX0 (n + 2) f fd ["term", "place"] (spTms (n + 1)) := by
  refine F.ok scLterms (fun vs H Q E h => ?_) (fun cdv A outer s H vs Q E hr h => ?_)
  · obtain ⟨a, pl, t, pre, rfl, _⟩ := h
    rfl
  obtain ⟨a, pl, t, pre, rfl, hA, hc, hp, hct, hl, q⟩ := h
  refine ⟨_, (pss_cons (ps_set (i := 2) scLterms.nd rfl (Or.inl rfl) (pe_lst (pa_cons (pe_tup (pa_cons (pv 1) (pa_cons (pv 0) pa_nil))) pa_nil)))
    (pss_cons (ps_for PassesOwn.never rfl (pi_enumT (by rfl) T.m_enumerate (pa_cons (pe_call G_law_parts (hr.mono (by omega)) rfl R_law_parts.m R_law_parts.k R_law_parts.b .nil pass0 (pa_cons (pv 0) pa_nil)) pa_nil)) (pg_tup rfl (pgs_cons (pg_name (i := 3) scLterms.nd rfl (Or.inl rfl)) (pgs_cons (pg_name (i := 4) scLterms.nd rfl (Or.inl rfl)) pgs_nil))) (pss_one (ps_expr (pe_bm PySem.F.plainAttrs_list PySem.F.slot_list_extend PySem.F.type_list_extend mt_extend (pv 2) (pa_cons (pe_call G_law_terms hr rfl R_law_terms.m R_law_terms.k R_law_terms.b .nil pass0 (pa_cons (pv 4) (pa_cons (pe_op op_catA (pv 1) (pe_tup (pa_cons (pv 3) pa_nil))) pa_nil))) pa_nil)))))
    (pss_one (ps_ret (pv 2))))), ?_⟩
  have ek := cnt_kids t
  refine ⟨_, rfl, _, rfl, sz (by show 2 ≤ 100000; decide), fun e0 he0 => ?_⟩
  have sa := same_new he0 (.tup [.ref pl, .ref a])
  refine ⟨sz (by show 1 ≤ 100000; decide), fun fl hfl => ?_⟩
  have sb := same_new hfl (.lst [.ref e0])
  have s0 := sa.trans sb
  have k0 : All2 (EnT (upd (upd H e0 (.tup [.ref pl, .ref a])) fl (.lst [.ref e0]))) [t] [.ref e0] := ⟨⟨e0, pl, a, rfl, sb _ _ upd_same, hA.tk (tk_same s0)⟩, trivial⟩
  have f0 : upd (upd H e0 (.tup [.ref pl, .ref a])) fl (.lst [.ref e0]) fl = some (.lst [.ref e0]) := upd_same
  have nfl := sa.free hfl
  generalize upd (upd H e0 (.tup [.ref pl, .ref a])) fl (.lst [.ref e0]) = H0 at s0 k0 f0
  clear sa sb hfl he0
  refine ⟨_, rfl, t, a, rfl, hA.tk (tk_same s0), fun pi H2 us s2 h2 k2 => ?_⟩
  have s02 := s0.trans s2
  refine ⟨pi, us, rfl, SqT.of h2, for_enT (xs := us) (fun i σ H' => ∃ o4 o5 its, σ = [some (.ref a), some (.ref pl), some (.ref fl), o4, o5] ∧ Same H H' ∧ TK H2 H' ∧ H' pi = some (.tup us) ∧ H' fl = some (.lst its) ∧ All2 (EnT H') (t :: TrT.pres ((kidsT t).take i)) its) ?_ ?_ ?_ ?_⟩
  · exact ⟨_, _, _, rfl, s02, fun _ _ z => z, h2, s2 _ _ f0, by rw [List.take_zero]; exact k0.imp fun _ _ z => z.tk (tk_same s2)⟩
  · rintro i σ H' _ ⟨o4, o5, its, rfl, _, _, g1, _⟩
    exact SqT.of g1
  · rintro i x T' σ H3 hx hT ⟨o4, o5, its, rfl, s3, t3, g1, g2, g3⟩
    obtain ⟨ti, hti, b, rfl, hb⟩ := k2.get hx
    have hti : (kidsT t)[i]? = some ti := hti
    obtain ⟨hj, hj2⟩ := List.getElem?_eq_some_iff.mp hti
    have hmem := mem_of_get hti
    have hck := cnt_kid hmem
    have s4 := same_new hT (.tup [.int (i : Nat), .ref b])
    refine ⟨T', _, rfl, SqT.of upd_same, rfl, _, _, rfl, _, _, rfl, rfl, ?_⟩
    have s34 := s3.trans s4
    refine ⟨_, rfl, .inl ⟨rfl, _, SqL.of (s4 _ _ g2)⟩, _, rfl, _, rfl, _, rfl, sz (by show 1 ≤ 100000; decide), fun p2 hp2 => ?_⟩
    have s5 := same_new hp2 (.tup [.int ((i : Nat) : Int)])
    refine catA_of (s5 _ _ (s34 _ _ hp)) upd_same (by show pre.length + 1 ≤ 100000; omega) fun p3 H4 s6 h4 => ?_
    have s45 := s4.trans (s5.trans s6)
    refine ⟨b, p3, ti, _, rfl, hb.tk (tk_trans t3 (tk_same s45)), hc.kid hmem, h4, by omega, by rw [List.length_append, List.length_singleton]; omega, fun p5 H5 its5 hp5 s7 h5 k5 => ?_⟩
    have s46 := s45.trans s7
    have s36 := s3.trans s46
    have f5 := s46 _ _ g2
    have l5 := k5.len
    have l3 := g3.len
    rw [preT_len] at l5
    rw [List.length_cons, presT_len] at l3
    have l6 : cnts ((kidsT t).take i) ≤ cnts (kidsT t) := by
      have := cnts_app ((kidsT t).take i) ((kidsT t).drop i)
      rw [List.take_append_drop] at this
      omega
    refine ⟨fl, p5, _, _, rfl, rfl, f5, h5, sz (by omega), ?_⟩
    have tk := tk_put (o := .lst (its ++ its5)) f5
    refine ⟨_, _, _, rfl, same_mut s36 nfl, tk_trans t3 (tk_trans (tk_same s46) tk), tk _ _ (s46 _ _ g1), upd_same, ?_⟩
    rw [List.take_succ_eq_append_getElem hj, hj2, TrT.pres_app, ← List.cons_append, TrT.pres_cons]
    rw [show TrT.pres [] = [] from rfl, List.append_nil]
    exact (g3.imp fun _ _ z => (z.tk (tk_same s46)).tk tk).app (k5.imp fun _ _ z => z.tk tk)
  · rintro σ H3 ⟨o4, o5, its, rfl, s3, _, g1, g2, g3⟩
    refine ⟨_, rfl, q fl H3 its nfl s3 g2 ?_⟩
    rw [k2.len] at g3
    have : (TrT.kids t).length = (kidsT t).length := rfl
    rw [this, List.take_length] at g3
    rw [TrT.pre_mk]
    exact g3
theorem no_tms {f : Addr} {fd : FuncData} : FnOk P w K mg base CX0 1 f fd ["term", "place"] (spTms 0) := by
  have no : ∀ vs H Q E, ¬ spTms 0 vs H Q E := fun vs H Q E h => by
    obtain ⟨a, pl, t, pre, _, _, h0, _⟩ := h
    exact h0
  exact ⟨fun vs H Q E h => absurd h (no vs H Q E), fun A outer s H args us vs Q E _ _ _ _ h => absurd h (no vs H Q E)⟩
theorem all_tms (T : Txt K mg) {f g1 : Addr} {fd d1 : FuncData} (F : Fun K "_law_terms" "_law_terms" s_law_terms f fd) (R_law_terms : Ref K mg "_law_terms" f fd ["term", "place"])
    (G_law_parts : FnOk P w K mg base CX0 1 g1 d1 ["term"] (spKids TrT)) (R_law_parts : Ref K mg "_law_parts" g1 d1 ["term"]) : ∀ n : Nat, FnOk P w K mg base CX0 (n + 1) f fd ["term", "place"] (spTms n)
  | 0 => no_tms
  | n + 1 => ok_tms T F (all_tms T F R_law_terms G_law_parts R_law_parts n) R_law_terms G_law_parts R_law_parts
end
end KB

set_option pp.maxSteps 400
namespace KB
open PySem L2 HT LamX NdefX

theorem all_rep : ∀ n : Nat, (List.replicate n true).all id = true
  | 0 => rfl
  | n + 1 => by
    rw [List.replicate_succ, List.all_cons, all_rep n]
    rfl
theorem flat_strs (xs : List Str) : (xs.map V.str).all flatV = true := by
  rw [List.all_eq_true]
  intro v hv
  obtain ⟨x, _, rfl⟩ := List.mem_map.mp hv
  rfl
theorem hs_namZ {h : Hd} (e : hs h = "name") : ∃ y, h = .nam y := by
  cases h with
  | nam z => exact ⟨z, rfl⟩
  | num z => exact absurd (show ("number" : Str) = "name" from e) (by decide)
  | lett z => exact absurd (show ("let" : Str) = "name" from e) (by decide)
  | plus => exact absurd (show ("plus" : Str) = "name" from e) (by decide)
  | less => exact absurd (show ("less" : Str) = "name" from e) (by decide)
  | tell => exact absurd (show ("tell" : Str) = "name" from e) (by decide)
  | ask z => exact absurd (show ("ask" : Str) = "name" from e) (by decide)
  | iff => exact absurd (show ("if" : Str) = "name" from e) (by decide)
theorem rP_terms {hF : Str → Option Nat} {p : Pt} {xs hs : List Str} (h : N.rP hF p xs hs) : ∀ t ∈ N.termsP p, N.RTm xs t := by
  intro t ht
  cases p with
  | give j u => rw [List.mem_singleton.mp ht]; exact h.2
  | ask f ts j => exact h.2.2.2.2 t ht
  | tell x u p => rw [List.mem_singleton.mp ht]; exact h.2.1
  | lett x u p => rw [List.mem_singleton.mp ht]; exact h.2.1
  | iff u p q => rw [List.mem_singleton.mp ht]; exact h.1
  | post j x p q => cases ht
section
variable {P : Program} {w : World} {K : PySem.W.Frag} {mg : Str → Option Value} {base : Heap}
/-! ### _law_stands -/
def spStn (n : Nat) : Sp := fun vs H Q _ => ∃ (a nl hl hd : Addr) (p : Pt) (xs js : List Str) (hF : Str → Option Nat), vs = [.ref a, .ref nl, .ref hl, .ref hd] ∧ PAt H p a ∧ N.rP hF p xs js ∧ H nl = some (.lst (xs.map V.str)) ∧ H hl = some (.lst (js.map V.str)) ∧ pcnt p ≤ n ∧ n ≤ 161 ∧ xs.length + pcnt p ≤ 1000 ∧ js.length + pcnt p ≤ 1000 ∧ ∀ H', Same H H' → Q (.bl true) H'
abbrev s_law_stands : Stmt := top 49
theorem scLstands : FnScope ["part", "names", "hands", "heads", "one", "words", "place", "term", "inner"] ["part", "names", "hands", "heads"] (defScope s_law_stands) := ⟨rfl, rfl, rfl, by decide +kernel, rfl, by decide +kernel, by decide +kernel⟩
theorem ok_stn (T : Txt K mg) {n : Nat} {f f1 f2 f3 : Addr} {fd d1 d2 d3 : FuncData} (F : Fun K "_law_stands" "_law_stands" s_law_stands f fd) (G_law_stands : FnOk P w K mg base CX0 (n + 67) f fd ["part", "names", "hands", "heads"] (spStn n)) (R_law_stands : Ref K mg "_law_stands" f fd ["part", "names", "hands", "heads"])
    (G_law_simples : FnOk P w K mg base CX0 1 f1 d1 ["part"] N.spSmp) (R_law_simples : Ref K mg "_law_simples" f1 d1 ["part"]) (G_law_terms : FnOk P w K mg base CX0 65 f2 d2 ["term", "place"] (spTms 64)) (R_law_terms : Ref K mg "_law_terms" f2 d2 ["term", "place"])
    (G_law_inner : FnOk P w K mg base CX0 1 f3 d3 ["part"] N.spInn) (R_law_inner : Ref K mg "_law_inner" f3 d3 ["part"]) : FnOk P w K mg base CX0 (n + 68) f fd ["part", "names", "hands", "heads"] (spStn (n + 1)) := by
  refine F.ok scLstands (fun vs H Q E h => ?_) (fun cdv A outer s H vs Q E hr h => ?_)
  · obtain ⟨a, nl, hl, hd, p, xs, js, hF, rfl, _⟩ := h
    rfl
  obtain ⟨a, nl, hl, hd, p, xs, js, hF, rfl, hA, hR, hnl, hhl, hpc, hn, hx, hh, q⟩ := h
  refine ⟨_, (pss_cons (ps_for PassesOwn.never rfl (pi_tup (pe_call G_law_simples (hr.mono (by omega)) rfl R_law_simples.m R_law_simples.k R_law_simples.b .nil pass0 (pa_cons (pv 0) pa_nil))) (pg_name (i := 4) scLstands.nd rfl (Or.inl rfl)) (pss_cons (ps_setLc (i := 5) (own := [("place", 6), ("term", 7)]) (g := gTup K 2 (gCons (gName 6) (gCons (gName 7) gNil))) (tt := tYes) (te := tVar 7) (by rfl) scLstands.nd rfl rfl (sw_true rfl rfl rfl (by decide +kernel)) (pi_list (pe_call G_law_terms (hr.mono (by omega)) rfl R_law_terms.m R_law_terms.k R_law_terms.b .nil pass0 (pa_cons (pv 4) (pa_cons (pe_tup pa_nil) pa_nil)))) (blkOk_by (own := [("place", 6), ("term", 7)]) (N := ["part", "names", "hands", "heads", "one", "words", "place", "term", "inner"]) (sc := defScope s_law_stands) (by decide +kernel)) (fun _ _ _ _ _ => (pg_tup rfl (pgs_cons (pg_name (i := 6) scLstands.nd rfl (Or.inl rfl)) (pgs_cons (pg_name (i := 7) scLstands.nd rfl (Or.inl rfl)) pgs_nil)))) (fun _ _ _ _ _ => pts_nil) (fun _ _ _ _ _ => (pv 7)))
    (pss_one (ps_if (pt_not (pt_val (pe_callB (cr_all rfl) (by rfl) T.m_all (by decide +kernel) (pa_cons (pe_lc (own := [("term", 7)]) (g := gName 7) (tt := tYes) (te := tOrV (tOp rNe (tOp (rIxT K) (tVar 7) (tC (.int 0))) (tC (.str "name"))) (tOp (rIn K false) (tOp (rIxT K) (tVar 7) (tC (.int 1))) (tVar 1))) (by rfl) scLstands.nd (pi_list (pv 5)) (blkOk_by (own := [("term", 7)]) (N := ["part", "names", "hands", "heads", "one", "words", "place", "term", "inner"]) (sc := defScope s_law_stands) (by decide +kernel)) (fun _ _ _ _ _ => (pg_name (i := 7) scLstands.nd rfl (Or.inl rfl))) (fun _ _ _ _ _ => pts_nil) (fun _ _ _ _ _ => (pe_or (pe_cmpR op_ne (pe_ix ix_tup (pv 7) pe_int (fun _ _ => rfl)) pe_str (nomark _)) (pe_one (pe_cmpR op_in_seq (pe_ix ix_tup (pv 7) pe_int (fun _ _ => rfl)) (pv 1) rfl))))) pa_nil)))) (pss_one (ps_ret pe_bl)) pss_nil))))
    (pss_cons (ps_if (pt_cmpR op_in_seq (pe_ix ix_tup (pv 0) pe_int (fun _ _ => rfl)) (pe_tup (pa_cons pe_str (pa_cons pe_str pa_nil))) rfl) (pss_one (ps_ret (pe_cmpR op_in_seq (pe_ix ix_tup (pv 0) (pe_op op_add pe_int (pe_op op_mul pe_int (pe_callTy call_int1 (by rfl) T.m_int (by decide +kernel) (pa_cons (pe_cmpR op_eq (pe_ix ix_tup (pv 0) pe_int (fun _ _ => rfl)) pe_str (nomark _)) pa_nil)))) (fun _ _ => rfl)) (pv 2) rfl))) pss_nil)
    (pss_cons (ps_set (i := 8) scLstands.nd rfl (Or.inl rfl) (pe_call G_law_inner (hr.mono (by omega)) rfl R_law_inner.m R_law_inner.k R_law_inner.b .nil pass0 (pa_cons (pv 0) pa_nil)))
    (pss_cons (ps_if (pt_cmpR op_eq (pe_ix ix_tup (pv 0) pe_int (fun _ _ => rfl)) pe_str (nomark _)) (pss_cons (ps_if (pt_not (pt_val (pe_call G_law_stands hr rfl R_law_stands.m R_law_stands.k R_law_stands.b .nil pass0 (pa_cons (pe_ix ix_tup (pv 8) pe_int (fun _ _ => rfl)) (pa_cons (pe_op op_cat (pv 1) (pe_lst (pa_cons (pe_ix ix_tup (pv 0) pe_int (fun _ _ => rfl)) pa_nil))) (pa_cons (pv 2) (pa_cons (pv 3) pa_nil))))))) (pss_one (ps_ret pe_bl)) pss_nil)
    (pss_one (ps_ret (pe_call G_law_stands hr rfl R_law_stands.m R_law_stands.k R_law_stands.b .nil pass0 (pa_cons (pe_ix ix_tup (pv 8) pe_int (fun _ _ => rfl)) (pa_cons (pv 1) (pa_cons (pe_op op_cat (pv 2) (pe_lst (pa_cons (pe_ix ix_tup (pv 0) pe_int (fun _ _ => rfl)) pa_nil))) (pa_cons (pv 3) pa_nil)))))))) pss_nil)
    (pss_cons (ps_if (pt_cmpR op_ne (pe_ix ix_tup (pv 0) pe_int (fun _ _ => rfl)) pe_str (nomark _)) (pss_one (ps_set (i := 1) scLstands.nd rfl (Or.inr rfl) (pe_op op_cat (pv 1) (pe_lst (pa_cons (pe_ix ix_tup (pv 0) pe_int (fun _ _ => rfl)) pa_nil))))) pss_nil)
    (pss_one (ps_ret (pe_callB (cr_all rfl) (by rfl) T.m_all (by decide +kernel) (pa_cons (pe_lc (own := [("one", 4)]) (g := gName 4) (by rfl) scLstands.nd (pi_tup (pv 8)) (blkOk_by (own := [("one", 4)]) (N := ["part", "names", "hands", "heads", "one", "words", "place", "term", "inner"]) (sc := defScope s_law_stands) (by decide +kernel)) (fun _ _ _ _ _ => (pg_name (i := 4) scLstands.nd rfl (Or.inl rfl))) (fun _ _ _ _ _ => pts_nil) (fun _ _ _ _ _ => (pe_call G_law_stands hr rfl R_law_stands.m R_law_stands.k R_law_stands.b .nil pass0 (pa_cons (pv 4) (pa_cons (pv 1) (pa_cons (pv 2) (pa_cons (pv 3) pa_nil))))))) pa_nil))))))))), ?_⟩
  have hterms := rP_terms hR
  refine ⟨_, rfl, a, p, rfl, hA, fun r H1 us s1 h1 k1 => ⟨r, rfl, ⟨_, SqT.of h1⟩, for_tup (K := K) (a := r) (xs := us) (fun i σ H' => ∃ o4 o5 o6 o7 o8, σ = [some (.ref a), some (.ref nl), some (.ref hl), some (.ref hd), o4, o5, o6, o7, o8] ∧ Same H H' ∧ Same H1 H') ⟨_, _, _, _, _, rfl, s1, Same.refl _⟩ ?_ ?_ ?_⟩⟩
  · rintro i σ H' _ ⟨_, _, _, _, _, rfl, _, s2⟩
    exact SqT.of (s2 _ _ h1)
  · rintro i x σ H2 hx0 ⟨o4, o5, o6, o7, o8, rfl, s02, s2⟩
    obtain ⟨t, ht, b, rfl, hb⟩ := k1.get hx0
    have hrt := hterms t (mem_of_get ht)
    have hnm := rtm_nms hrt
    have hb2 := hb.tk (tk_same s2)
    refine ⟨_, rfl, sz (by show 0 ≤ 100000; decide), fun e0 he0 => ?_⟩
    have s3 := same_new he0 (.tup [])
    have h3 : upd H2 e0 (.tup []) e0 = some (.tup []) := upd_same
    refine ⟨b, e0, t, [], rfl, hb2.tk (tk_same s3), hrt.ht, h3, Nat.le_trans hrt.cn (by decide), by decide, fun pp H3 ps hpp s4 h4 k4 => ?_⟩
    have s24 := s3.trans s4
    have hlp := k4.len
    rw [preT_len] at hlp
    have hcn := hrt.cn
    refine ⟨pp, rfl, ⟨_, SqL.of h4⟩, fun D hD => lc_list (K := K) (a := pp) (xs := ps) (fun j H' => Same H3 H' ∧ ∃ acc, H' D = some (.lst acc) ∧ All2 (RefV H') ((TrT.pre t).take j) acc) ⟨same_new hD _, [], upd_same, trivial⟩ ?_ ?_ ?_⟩
    · rintro j H' _ ⟨s5, _⟩
      exact SqL.of (s5 _ _ h4)
    · rintro j y H4 hy ⟨s5, acc, h5, k5⟩
      obtain ⟨u, hu, q2, r2, b2, rfl, g4, g6⟩ := k4.get hy
      obtain ⟨hj, hj2⟩ := List.getElem?_eq_some_iff.mp hu
      have hle := k5.len
      rw [List.length_take] at hle
      refine ⟨q2, _, rfl, SqT.of (s5 _ _ g4), rfl, _, _, rfl, _, _, rfl, rfl, rfl, ?_⟩
      dsimp only [tYes]
      refine iteT ⟨_, rfl, acc, h5, Nat.lt_of_le_of_lt (m := 100000) (by rw [preT_len] at hle; omega) (by decide), same_mut s5 hD, _, upd_same, ?_⟩
      have tk := tk_put (o := .lst (acc ++ [.ref b2])) h5
      rw [List.take_succ_eq_append_getElem hj, hj2]
      exact (k5.imp fun _ _ z => RefV.tk tk z).app ⟨⟨b2, rfl, (g6.tk (tk_same s5)).tk tk⟩, trivial⟩
    rintro H4 ⟨s5, acc, h5, k5⟩
    rw [show ps.length = (TrT.pre t).length from k4.len, List.take_length] at k5
    have s25 := s24.trans s5
    have hac := k5.len
    rw [preT_len] at hac
    have hnl4 := s25 _ _ (s02 _ _ hnl)
    refine ⟨_, rfl, D, rfl, ⟨_, SqL.of h5⟩, fun D2 hD2 => lc_list (K := K) (a := D) (xs := acc) (fun j H' => Same H4 H' ∧ H' D2 = some (.lst ((List.replicate j true).map V.bl))) ⟨same_new hD2 _, upd_same⟩ ?_ ?_ ?_⟩
    · rintro j H' _ ⟨s6, _⟩
      exact SqL.of (s6 _ _ h5)
    · rintro j y H5 hy ⟨s6, h6⟩
      obtain ⟨u, hu, b2, rfl, g6⟩ := k5.get hy
      obtain ⟨hj, hj2⟩ := List.getElem?_eq_some_iff.mp hu
      have hmem := mem_of_get hu
      have g7 := g6.tk (tk_same s6)
      obtain ⟨ys, l, _⟩ := At.kids g7
      obtain ⟨rr, hd2⟩ := l.head
      have hlt : j < 200 + 1 := by
        rw [preT_len] at hj
        omega
      have fin : ∀ z : Bool, z = true → ∃ acc, H5 D2 = some (HO.lst acc) ∧ acc.length < sizeLine ∧ (Same H4 (upd H5 D2 (.lst (acc ++ [.bl z]))) ∧ upd H5 D2 (.lst (acc ++ [.bl z])) D2 = some (.lst ((List.replicate (j + 1) true).map V.bl))) := fun z hz => by
        refine ⟨_, h6, Nat.lt_of_le_of_lt (m := 1000) (by rw [List.length_map, List.length_replicate]; omega) (by decide), same_mut s6 hD2, ?_⟩
        rw [upd_same, hz, List.replicate_succ', List.map_append]
        rfl
      refine ⟨rfl, ?_⟩
      dsimp only [tYes]
      refine iteT ⟨_, rfl, b2, _, _, _, rfl, rfl, SqT.of hd2, at0, rfl, _, rfl, ?_⟩
      by_cases c : hs (hdT u) = "name"
      · obtain ⟨y, hy2⟩ := hs_namZ c
        have hyx : y ∈ xs := hnm y (pre_nms _ t (Nat.le_refl _) u hmem y (N.nms_hd y (by rw [hy2]; exact List.mem_singleton.mpr rfl)))
        have g7h : H5 b2 = some (.tup [.str "name", .str y]) := by
          have l2 := l
          rw [hy2] at l2
          rw [l2.2]
        refine itF (by rw [c]; rfl) ?_
        exact ⟨_, rfl, b2, _, _, _, rfl, rfl, SqT.of g7h, at1, _, rfl, nl, _, rfl, .inl (SqL.of (s6 _ _ hnl4)), rfl, flat_strs _, fin _ (inV_mem hyx)⟩
      · refine itT (by rw [Bool.not_eq_true', decide_eq_false_iff_not]; exact fun e => c (V.str.inj e)) (fin _ rfl)
    rintro H5 ⟨s6, h6⟩
    refine ⟨D2, _, rfl, SqL.of h6, _, rfl, itF (by rw [all_rep]; rfl) ?_⟩
    exact ⟨_, _, _, _, _, rfl, s02.trans (s25.trans s6), s2.trans (s25.trans s6)⟩
  rintro σ H2 ⟨o4, o5, o6, o7, o8, rfl, s02, s2⟩
  have hA2 := PAt.tk (tk_same s02) hA
  have hnl2 := s02 _ _ hnl
  have hhl2 := s02 _ _ hhl
  obtain ⟨rr, hdp⟩ := PAt.head hA2
  refine ⟨_, rfl, a, _, _, _, rfl, rfl, SqT.of hdp, at0, sz (by show 2 ≤ 100000; decide), fun t0 ht0 => ?_⟩
  have s3 := same_new ht0 (.tup [.str "give", .str "ask"])
  refine ⟨t0, _, rfl, .inr (SqT.of upd_same), rfl, rfl, _, rfl, ?_⟩
  generalize upd H2 t0 (.tup [.str "give", .str "ask"]) = H3 at s3 ⊢
  have hhl3 := s3 _ _ hhl2
  have hin : ∀ j ∈ js, Q (.bl (inV (.str j) (js.map V.str))) H3 := fun j hj => by
    rw [inV_mem hj]
    exact q _ (s02.trans s3)
  cases p with
  | give j t =>
    obtain ⟨b, h1, h2⟩ := id hA2
    have h13 := s3 _ _ h1
    have R : j ∈ js ∧ N.RTm xs t := hR
    exact itT rfl ⟨_, rfl, _, rfl, a, _, _, _, rfl, rfl, SqT.of h13, at0, rfl, .inr ⟨_, rfl, _, _, rfl, rfl, .inl ⟨by decide, by decide⟩, _, _, rfl, rfl, a, _, _, _, rfl, rfl, SqT.of h13, at1, _, rfl, hl, _, rfl, .inl (SqL.of hhl3), rfl, flat_strs _, hin _ R.1⟩⟩
  | ask g ts j =>
    obtain ⟨b, xs', h1, h2, h3⟩ := id hA2
    have h13 := s3 _ _ h1
    have R : j ∈ js := hR.1
    exact itT rfl ⟨_, rfl, _, rfl, a, _, _, _, rfl, rfl, SqT.of h13, at0, rfl, .inr ⟨_, rfl, _, _, rfl, rfl, .inl ⟨by decide, by decide⟩, _, _, rfl, rfl, a, _, _, _, rfl, rfl, SqT.of h13, at3, _, rfl, hl, _, rfl, .inl (SqL.of hhl3), rfl, flat_strs _, hin _ R⟩⟩
  | tell x t p =>
    obtain ⟨b, c, h1, h2, h3⟩ := id hA2
    have R : isW x = true ∧ N.RTm xs t ∧ N.rP hF p (xs ++ [x]) js := hR
    refine itF rfl ⟨_, rfl, a, .tell x t p, rfl, PAt.tk (tk_same s3) hA2, fun r2 H4 us2 s4 h4 k4 => ?_⟩
    have s34 := s3.trans s4
    have h14 := s34 _ _ h1
    refine ⟨_, rfl, a, _, _, _, rfl, rfl, SqT.of h14, at0, rfl, _, rfl, itF rfl ?_⟩
    refine ⟨_, rfl, a, _, _, _, rfl, rfl, SqT.of h14, at0, rfl, _, rfl, itT rfl ?_⟩
    refine ⟨_, rfl, _, rfl, a, _, _, _, rfl, rfl, SqT.of h14, at1, sz (by show 1 ≤ 100000; decide), fun l1 hl1 => ?_⟩
    have s5 := same_new hl1 (.lst [.str x])
    have hcp : 1 + pcnt p ≤ n + 1 := hpc
    have hx1 : xs.length + (1 + pcnt p) ≤ 1000 := hx
    have hh1 : js.length + (1 + pcnt p) ≤ 1000 := hh
    refine ⟨nl, l1, xs.map V.str, [.str x], rfl, rfl, (s34.trans s5) _ _ hnl2, upd_same, sz (by rw [List.length_map, List.length_singleton]; omega), fun l2 hl2 => ?_⟩
    have s6 := same_new hl2 (.lst (xs.map V.str ++ [.str x]))
    have h6 : upd (upd H4 l1 (.lst [.str x])) l2 (.lst (xs.map V.str ++ [.str x])) l2 = some (.lst ((xs ++ [x]).map V.str)) := by
      rw [upd_same, List.map_append]
      rfl
    have s46 := s5.trans s6
    generalize upd (upd H4 l1 (.lst [.str x])) l2 (.lst (xs.map V.str ++ [.str x])) = H6 at h6 s46 ⊢
    have s36 := s34.trans s46
    refine ⟨_, rfl, r2, rfl, ⟨_, SqT.of (s46 _ _ h4)⟩, fun D hD => lc_tup (K := K) (a := r2) (xs := us2) (fun j H' => Same H6 H' ∧ H' D = some (.lst ((List.replicate j true).map V.bl))) ⟨same_new hD _, upd_same⟩ ?_ ?_ ?_⟩
    · rintro j H' _ ⟨s7, _⟩
      exact SqT.of (s7 _ _ (s46 _ _ h4))
    · rintro j y H7 hy ⟨s7, h7⟩
      obtain ⟨u, hu, bb, rfl, hbb⟩ := k4.get hy
      obtain ⟨hj, hj2⟩ := List.getElem?_eq_some_iff.mp hu
      have hj1 : j < 1 := hj
      have hj0 : j = 0 := by omega
      subst hj0
      have eu : u = p := (Option.some.inj hu).symm
      subst eu
      refine ⟨rfl, ?_⟩
      dsimp only [tYes]
      refine iteT ⟨_, rfl, _, rfl, _, rfl, _, rfl, bb, l2, hl, hd, u, xs ++ [x], js, hF, rfl, PAt.tk (tk_same (s46.trans s7)) hbb, R.2.2, s7 _ _ h6, (s36.trans s7) _ _ hhl2, by omega, by omega, by rw [List.length_append, List.length_singleton]; omega, by omega, fun H8 s8 => ⟨_, s8 _ _ h7, Nat.lt_of_le_of_lt (m := 4) (by rw [List.length_map, List.length_replicate]; omega) (by decide), same_mut (s7.trans s8) hD, ?_⟩⟩
      rw [upd_same, List.replicate_succ', List.map_append]
      rfl
    · rintro H7 ⟨s7, h7⟩
      refine ⟨D, _, rfl, SqL.of h7, ?_⟩
      rw [all_rep]
      exact q H7 ((s02.trans s36).trans s7)
  | lett x t p =>
    obtain ⟨b, c, h1, h2, h3⟩ := id hA2
    have R : isW x = true ∧ N.RTm xs t ∧ N.rP hF p (xs ++ [x]) js := hR
    refine itF rfl ⟨_, rfl, a, .lett x t p, rfl, PAt.tk (tk_same s3) hA2, fun r2 H4 us2 s4 h4 k4 => ?_⟩
    have s34 := s3.trans s4
    have h14 := s34 _ _ h1
    refine ⟨_, rfl, a, _, _, _, rfl, rfl, SqT.of h14, at0, rfl, _, rfl, itF rfl ?_⟩
    refine ⟨_, rfl, a, _, _, _, rfl, rfl, SqT.of h14, at0, rfl, _, rfl, itT rfl ?_⟩
    refine ⟨_, rfl, _, rfl, a, _, _, _, rfl, rfl, SqT.of h14, at1, sz (by show 1 ≤ 100000; decide), fun l1 hl1 => ?_⟩
    have s5 := same_new hl1 (.lst [.str x])
    have hcp : 1 + pcnt p ≤ n + 1 := hpc
    have hx1 : xs.length + (1 + pcnt p) ≤ 1000 := hx
    have hh1 : js.length + (1 + pcnt p) ≤ 1000 := hh
    refine ⟨nl, l1, xs.map V.str, [.str x], rfl, rfl, (s34.trans s5) _ _ hnl2, upd_same, sz (by rw [List.length_map, List.length_singleton]; omega), fun l2 hl2 => ?_⟩
    have s6 := same_new hl2 (.lst (xs.map V.str ++ [.str x]))
    have h6 : upd (upd H4 l1 (.lst [.str x])) l2 (.lst (xs.map V.str ++ [.str x])) l2 = some (.lst ((xs ++ [x]).map V.str)) := by
      rw [upd_same, List.map_append]
      rfl
    have s46 := s5.trans s6
    generalize upd (upd H4 l1 (.lst [.str x])) l2 (.lst (xs.map V.str ++ [.str x])) = H6 at h6 s46 ⊢
    have s36 := s34.trans s46
    refine ⟨_, rfl, r2, rfl, ⟨_, SqT.of (s46 _ _ h4)⟩, fun D hD => lc_tup (K := K) (a := r2) (xs := us2) (fun j H' => Same H6 H' ∧ H' D = some (.lst ((List.replicate j true).map V.bl))) ⟨same_new hD _, upd_same⟩ ?_ ?_ ?_⟩
    · rintro j H' _ ⟨s7, _⟩
      exact SqT.of (s7 _ _ (s46 _ _ h4))
    · rintro j y H7 hy ⟨s7, h7⟩
      obtain ⟨u, hu, bb, rfl, hbb⟩ := k4.get hy
      obtain ⟨hj, hj2⟩ := List.getElem?_eq_some_iff.mp hu
      have hj1 : j < 1 := hj
      have hj0 : j = 0 := by omega
      subst hj0
      have eu : u = p := (Option.some.inj hu).symm
      subst eu
      refine ⟨rfl, ?_⟩
      dsimp only [tYes]
      refine iteT ⟨_, rfl, _, rfl, _, rfl, _, rfl, bb, l2, hl, hd, u, xs ++ [x], js, hF, rfl, PAt.tk (tk_same (s46.trans s7)) hbb, R.2.2, s7 _ _ h6, (s36.trans s7) _ _ hhl2, by omega, by omega, by rw [List.length_append, List.length_singleton]; omega, by omega, fun H8 s8 => ⟨_, s8 _ _ h7, Nat.lt_of_le_of_lt (m := 4) (by rw [List.length_map, List.length_replicate]; omega) (by decide), same_mut (s7.trans s8) hD, ?_⟩⟩
      rw [upd_same, List.replicate_succ', List.map_append]
      rfl
    · rintro H7 ⟨s7, h7⟩
      refine ⟨D, _, rfl, SqL.of h7, ?_⟩
      rw [all_rep]
      exact q H7 ((s02.trans s36).trans s7)
  | iff t p u =>
    obtain ⟨b, c, d, h1, h2, h3, h4⟩ := id hA2
    have R : N.RTm xs t ∧ N.rP hF p xs js ∧ N.rP hF u xs js := hR
    refine itF rfl ⟨_, rfl, a, .iff t p u, rfl, PAt.tk (tk_same s3) hA2, fun r2 H4 us2 s4 h4 k4 => ?_⟩
    have s34 := s3.trans s4
    have h14 := s34 _ _ h1
    refine ⟨_, rfl, a, _, _, _, rfl, rfl, SqT.of h14, at0, rfl, _, rfl, itF rfl ?_⟩
    refine ⟨_, rfl, a, _, _, _, rfl, rfl, SqT.of h14, at0, rfl, _, rfl, itF rfl ?_⟩
    have hcp : 1 + pcnt p + pcnt u ≤ n + 1 := hpc
    have hx1 : xs.length + (1 + pcnt p + pcnt u) ≤ 1000 := hx
    have hh1 : js.length + (1 + pcnt p + pcnt u) ≤ 1000 := hh
    have Rk : ∀ z ∈ [p, u], N.rP hF z xs js ∧ pcnt z ≤ n ∧ pcnt z ≤ pcnt p + pcnt u := fun z hz => by
      rcases List.mem_cons.mp hz with e | e
      · rw [e]; exact ⟨R.2.1, by omega, by omega⟩
      · rw [List.mem_singleton.mp e]; exact ⟨R.2.2, by omega, by omega⟩
    refine ⟨_, rfl, r2, rfl, ⟨_, SqT.of h4⟩, fun D hD => lc_tup (K := K) (a := r2) (xs := us2) (fun j H' => Same H4 H' ∧ H' D = some (.lst ((List.replicate j true).map V.bl))) ⟨same_new hD _, upd_same⟩ ?_ ?_ ?_⟩
    · rintro j H' _ ⟨s7, _⟩
      exact SqT.of (s7 _ _ h4)
    · rintro j y H7 hy ⟨s7, h7⟩
      obtain ⟨z, hu, bb, rfl, hbb⟩ := k4.get hy
      obtain ⟨hj, hj2⟩ := List.getElem?_eq_some_iff.mp hu
      have hj1 : j < 2 := hj
      obtain ⟨Rz, cz, cz2⟩ := Rk z (mem_of_get hu)
      refine ⟨rfl, ?_⟩
      dsimp only [tYes]
      refine iteT ⟨_, rfl, _, rfl, _, rfl, _, rfl, bb, nl, hl, hd, z, xs, js, hF, rfl, PAt.tk (tk_same s7) hbb, Rz, (s34.trans s7) _ _ hnl2, (s34.trans s7) _ _ hhl2, cz, by omega, by omega, by omega, fun H8 s8 => ⟨_, s8 _ _ h7, Nat.lt_of_le_of_lt (m := 4) (by rw [List.length_map, List.length_replicate]; omega) (by decide), same_mut (s7.trans s8) hD, ?_⟩⟩
      rw [upd_same, List.replicate_succ', List.map_append]
      rfl
    · rintro H7 ⟨s7, h7⟩
      refine ⟨D, _, rfl, SqL.of h7, ?_⟩
      rw [all_rep]
      exact q H7 ((s02.trans s34).trans s7)
  | post j x p u =>
    obtain ⟨c, d, h1, h2, h3⟩ := id hA2
    have R : isW j = true ∧ isW x = true ∧ N.rP hF p (xs ++ [x]) js ∧ N.rP hF u xs (js ++ [j]) := hR
    refine itF rfl ⟨_, rfl, a, .post j x p u, rfl, PAt.tk (tk_same s3) hA2, fun r2 H4 us2 s4 h4 k4 => ?_⟩
    have s34 := s3.trans s4
    have h14 := s34 _ _ h1
    have hcp : 1 + pcnt p + pcnt u ≤ n + 1 := hpc
    have hx1 : xs.length + (1 + pcnt p + pcnt u) ≤ 1000 := hx
    have hh1 : js.length + (1 + pcnt p + pcnt u) ≤ 1000 := hh
    cases us2 with
    | nil => exact False.elim k4
    | cons v0 us2 => ?_
    cases us2 with
    | nil => exact False.elim k4.2
    | cons v1 us2 => ?_
    obtain ⟨⟨b0, rfl, kb0⟩, ⟨b1, rfl, kb1⟩, _⟩ := k4
    refine ⟨_, rfl, a, _, _, _, rfl, rfl, SqT.of h14, at0, rfl, _, rfl, itT rfl ?_⟩
    refine ⟨_, rfl, r2, _, _, _, rfl, rfl, SqT.of h4, at0, _, rfl, _, rfl, a, _, _, _, rfl, rfl, SqT.of h14, at2, sz (by show 1 ≤ 100000; decide), fun l1 hl1 => ?_⟩
    have s5 := same_new hl1 (.lst [.str x])
    refine ⟨nl, l1, xs.map V.str, [.str x], rfl, rfl, (s34.trans s5) _ _ hnl2, upd_same, sz (by rw [List.length_map, List.length_singleton]; omega), fun l2 hl2 => ?_⟩
    have s6 := same_new hl2 (.lst (xs.map V.str ++ [.str x]))
    have h6 : upd (upd H4 l1 (.lst [.str x])) l2 (.lst (xs.map V.str ++ [.str x])) l2 = some (.lst ((xs ++ [x]).map V.str)) := by
      rw [upd_same, List.map_append]
      rfl
    have s46 := s5.trans s6
    generalize upd (upd H4 l1 (.lst [.str x])) l2 (.lst (xs.map V.str ++ [.str x])) = H6 at h6 s46 ⊢
    have s36 := s34.trans s46
    refine ⟨_, rfl, _, rfl, b0, l2, hl, hd, p, xs ++ [x], js, hF, rfl, PAt.tk (tk_same s46) kb0, R.2.2.1, h6, s36 _ _ hhl2, by omega, by omega, by rw [List.length_append, List.length_singleton]; omega, by omega, fun H8 s8 => ?_⟩
    have s38 := s36.trans s8
    have s48 := s46.trans s8
    refine ⟨true, rfl, itF rfl ?_⟩
    refine ⟨_, rfl, r2, _, _, _, rfl, rfl, SqT.of (s48 _ _ h4), at1, _, rfl, _, rfl, _, rfl, a, _, _, _, rfl, rfl, SqT.of (s48 _ _ h14), at1, sz (by show 1 ≤ 100000; decide), fun l3 hl3 => ?_⟩
    have s9 := same_new hl3 (.lst [.str j])
    refine ⟨hl, l3, js.map V.str, [.str j], rfl, rfl, (s38.trans s9) _ _ hhl2, upd_same, sz (by rw [List.length_map, List.length_singleton]; omega), fun l4 hl4 => ?_⟩
    have s10 := same_new hl4 (.lst (js.map V.str ++ [.str j]))
    have h10 : upd (upd H8 l3 (.lst [.str j])) l4 (.lst (js.map V.str ++ [.str j])) l4 = some (.lst ((js ++ [j]).map V.str)) := by
      rw [upd_same, List.map_append]
      rfl
    have s810 := s9.trans s10
    generalize upd (upd H8 l3 (.lst [.str j])) l4 (.lst (js.map V.str ++ [.str j])) = H10 at h10 s810 ⊢
    exact ⟨_, rfl, b1, nl, l4, hd, u, xs, js ++ [j], hF, rfl, PAt.tk (tk_same (s48.trans s810)) kb1, R.2.2.2, (s38.trans s810) _ _ hnl2, h10, by omega, by omega, by omega, by rw [List.length_append, List.length_singleton]; omega, fun H11 s11 => q H11 ((s02.trans s38).trans (s810.trans s11))⟩
theorem no_stn {f : Addr} {fd : FuncData} : FnOk P w K mg base CX0 67 f fd ["part", "names", "hands", "heads"] (spStn 0) := by
  have no : ∀ vs H Q E, ¬ spStn 0 vs H Q E := fun vs H Q E h => by
    obtain ⟨a, nl, hl, hd, p, xs, hs, hF, _, _, _, _, _, h0, _⟩ := h
    cases p <;> unfold pcnt at h0 <;> omega
  exact ⟨fun vs H Q E h => absurd h (no vs H Q E), fun A outer s H args us vs Q E _ _ _ _ h => absurd h (no vs H Q E)⟩
theorem all_stn (T : Txt K mg) {f f1 f2 f3 : Addr} {fd d1 d2 d3 : FuncData} (F : Fun K "_law_stands" "_law_stands" s_law_stands f fd) (R_law_stands : Ref K mg "_law_stands" f fd ["part", "names", "hands", "heads"])
    (G_law_simples : FnOk P w K mg base CX0 1 f1 d1 ["part"] N.spSmp) (R_law_simples : Ref K mg "_law_simples" f1 d1 ["part"]) (G_law_terms : FnOk P w K mg base CX0 65 f2 d2 ["term", "place"] (spTms 64)) (R_law_terms : Ref K mg "_law_terms" f2 d2 ["term", "place"])
    (G_law_inner : FnOk P w K mg base CX0 1 f3 d3 ["part"] N.spInn) (R_law_inner : Ref K mg "_law_inner" f3 d3 ["part"]) : ∀ n : Nat, FnOk P w K mg base CX0 (n + 67) f fd ["part", "names", "hands", "heads"] (spStn n)
  | 0 => no_stn
  | n + 1 => ok_stn T F (all_stn T F R_law_stands G_law_simples R_law_simples G_law_terms R_law_terms G_law_inner R_law_inner n) R_law_stands G_law_simples R_law_simples G_law_terms R_law_terms G_law_inner R_law_inner
end
end KB

namespace KB.SetS
open PySem PySem.Spec PyProof.Rows

/-! ### a set of many unlike texts -/
/-- the set at a holds the first i of xs -/
def InS (pr : Program) (w : World) (h : Heap) (a : Addr) (xs : List Str) (i : Nat) : Prop := ∃ S : Str → Bool, h.SetOf (PySem.strKind pr w) a S i ∧ ∀ z, S z = true ↔ z ∈ xs.take i
theorem InS.step {pr : Program} {w : World} {h : Heap} {a : Addr} {xs : List Str} {i : Nat} {x : Str} {S : Str → Bool} (hx : xs[i]? = some x) (nd : xs.Nodup) (hm : ∀ z, S z = true ↔ z ∈ xs.take i)
    (hs : h.SetOf (PySem.strKind pr w) a (fun z => S z || decide (z = x)) (if S x = true then i else i + 1)) : InS pr w h a xs (i + 1) := by
  obtain ⟨hi, rfl⟩ := List.getElem?_eq_some_iff.mp hx
  have hno : ¬ S xs[i] = true := fun z => by
    obtain ⟨k, hk, e⟩ := List.mem_iff_getElem.mp ((hm _).mp z)
    rw [List.length_take] at hk
    rw [List.getElem_take] at e
    have := (List.getElem_inj nd).mp e
    omega
  rw [if_neg hno] at hs
  refine ⟨_, hs, fun z => ?_⟩
  rw [Bool.or_eq_true, hm z, List.take_succ_eq_append_getElem hi, List.mem_append, List.mem_singleton, decide_eq_true_iff]
section
variable {pr : Program} {w : World} {A : Around} {R : Result → Shared → Prop} {I : Addr} {fp wr : List Addr} {G : Array GenState → Array GenState → Prop} {n : Nat} {Y : Nat → Value → Prop} {St : Nat → Shared → Prop}
theorem walk_in (W : WalksS pr w A.in1 I fp wr G n Y St) {a : Addr} (ha : a ∉ fp) {xs : List Str} (nd : xs.Nodup) (hn : xs.length = n) (room : n + 1 < scanBound) (hY : ∀ i v, Y i v → ∃ x t, xs[i]? = some x ∧ v = .str x t) (m : Nat) :
    ∀ (i : Nat) (s : Shared), n - i = m → i ≤ n → St i s → InS pr w s.heap a xs i → (∀ s', Moved (a :: wr) G s s' → InS pr w s'.heap a xs n → R (.ok (.ret .none)) s') →
      codeAny (model pr w) A (.builtin "set.update.loop" ⟨[.ref a, .ref I], []⟩) R s := by
  have hw : a ∉ wr := fun z => ha (W.sub _ z)
  have up : ∀ b ∈ wr, b ∈ a :: wr := fun b z => List.mem_cons_of_mem _ z
  have stay : ∀ {s s' : Shared} {i : Nat}, Moved wr G s s' → InS pr w s.heap a xs i → InS pr w s'.heap a xs i := fun mv ⟨S, ⟨o, es, ep, tb, ho, more⟩, z⟩ => ⟨S, ⟨o, es, ep, tb, mv.heap a _ hw ho, more⟩, z⟩
  induction m with
  | zero =>
    intro i s e1 e2 st h0 q
    obtain rfl : i = n := by omega
    refine codeAny_builtin F.entry_set_update_loop ?_
    rw [Around.under_plainId F.plain_set_update_loop _]
    refine wpAny_bind (W.done s _ _ st fun s' mv => wpAny_pure (q s' (mv.mono up) (stay mv h0)))
  | succ m ih =>
    intro i s e1 e2 st h0 q
    refine codeAny_builtin F.entry_set_update_loop ?_
    rw [Around.under_plainId F.plain_set_update_loop _]
    refine wpAny_bind (W.item i s _ _ (by omega) st fun v s' y st' mv => ?_)
    obtain ⟨x, t, hx, rfl⟩ := hY i v y
    obtain ⟨S, hS, hm⟩ := stay mv h0
    refine wpAny_bind (wpAny_holding ?_)
    unfold setAdd
    refine wpAny_holding (wpAny_bind ((PySem.strKind pr w).pyHash (k := x) (strKind_is _ _ _ _) ?_))
    refine wpAny_setAddHashed_of (knd := PySem.strKind pr w) (s := { s' with toks := s'.toks + 1 }) (strKind_is _ _ _ _) rfl hS (by omega) fun h' sb hs => ?_
    refine wpAny_pure ⟨plainId_quiet F.plain_set_update_loop _, ih (i + 1) _ (by omega) (by omega) (W.frame _ s' _ _ st' (Nat.le_succ _) fun b hb o e => ?_) (InS.step hx nd hm hs) fun s2 mv2 hs2 => ?_⟩
    · exact (sb.2 b fun z => ha (z ▸ hb)).trans e
    · refine q s2 (Moved.trans W.gtrans ((mv.mono up).then_heap (Nat.le_succ _) fun b o hb e => ?_) mv2) hs2
      exact (sb.2 b fun z => hb (z ▸ List.mem_cons_self)).trans e
end
end KB.SetS

namespace KB.SetS
open PySem PySem.Spec PyProof.Rows

theorem at_strs : ∀ {us : List Value} {xs : List Str}, StrsAre us xs → ∀ (i : Nat) (v : Value), us[i]? = some v → ∃ x t, xs[i]? = some x ∧ v = .str x t
  | _, _, .nil, i, v, e => by simp at e
  | _, _, .cons x t r, 0, v, e => ⟨x, t, rfl, (Option.some.inj e).symm⟩
  | _, _, .cons x t r, i + 1, v, e => by
    obtain ⟨y, u, h1, h2⟩ := at_strs r i v (by simpa using e)
    exact ⟨y, u, by simpa using h1, h2⟩
/-- the heap with the new, empty set -/
abbrev hE (h : Heap) (led : Bool) : Heap := h.push { cls := .type "set", dict := none, data := .set #[] 0 (.fresh 0 0 led) }
section
variable {pr : Program} {w : World} {A : Around} {E : Value → Shared → Prop} {s : Shared}
theorem inS_new {led : Bool} {o : Obj} : InS pr w ((hE s.heap led).push o) s.heap.objs.size [] 0 := by
  have g : ((hE s.heap led).push o).get? s.heap.objs.size = some { cls := .type "set", dict := none, data := .set #[] 0 (.fresh 0 0 led) } := Heap.get?_push_of_some _ (Heap.get?_push_size _ rfl)
  exact ⟨_, (setObjOf_fresh (knd := PySem.strKind pr w) led).setOf g (by unfold scanBound; omega), fun z => by simp⟩
theorem set_strs {l : Addr} {us : Array Value} {xs : List Str} {Q : Value → Shared → Prop} (hh : A.handled = none) (hl : s.heap.IsList l us) (hx : StrsAre us.toList xs) (nd : xs.Nodup) (room : xs.length + 1 < scanBound)
    (q : ∀ (h' : Heap) (tk : Nat), InS pr w h' s.heap.objs.size xs xs.length → (∀ b o, b < s.heap.objs.size → s.heap.get? b = some o → h'.get? b = some o) → Q (.ref s.heap.objs.size) { s with heap := h', toks := tk }) :
    wpAny (model pr w) A (call (.type "set") [.ref l]) Q E s := by
  have hz : xs.length = us.size := by rw [← StrsAre.len_eq hx, Array.length_toList]
  have hlt : l < s.heap.objs.size := by
    obtain ⟨o, ho, _⟩ := hl
    exact Heap.lt_size ho
  obtain ⟨c, tl, mro⟩ := F.called_set.mro
  have made := F.called_set.made
  have sub := F.called_set.sub
  have nt := F.called_set.notType
  have cc := F.called_set.canCreate
  have tc := F.typeCall_set_1 (.ref l)
  refine wpAny_call (codeAny_of_tree ?_)
  show wpAny _ _ (callAny (.type "set") _) _ _ _
  refine wpAny_pure ⟨Code.quiet_builtin _ (by decide +kernel), codeAny_builtin F.entry_type_call ?_⟩
  rw [Around.under_plain (weight_type_call_type "set" [.ref l] []) rfl]
  repeat (any_goals (first | assumption | wp_step))
  refine codeAny_mono (code_set_new_1 (.ref l) (E := E) (Q₁ := fun v s1 => ∃ led : Bool, v = .ref s.heap.objs.size ∧ s1 = { s with heap := hE s.heap led }) fun led => ⟨led, rfl, rfl⟩) fun r s1 hr => ?_
  cases r with
  | error e => exact hr
  | ok fl =>
    cases fl with
    | ret v =>
      obtain ⟨led, e1, e2⟩ := hr
      subst e1 e2
      have g0 : (hE s.heap led).get? s.heap.objs.size = some { cls := .type "set", dict := none, data := .set #[] 0 (.fresh 0 0 led) } := Heap.get?_push_size _ rfl
      have ty : Shared.TypeIs { s with heap := hE s.heap led } (.ref s.heap.objs.size) "set" := ⟨_, g0, rfl⟩
      have ini := F.called_set.init.lookup
      have bnd := F.called_set.init.bind (.ref s.heap.objs.size)
      repeat (any_goals (first | assumption | wp_step))
      refine codeAny_mono (codeAny_call_builtin (R := wants (fun v s2 => v = .none ∧ ∃ h' tk, s2 = { s with heap := h', toks := tk } ∧ InS pr w h' s.heap.objs.size xs xs.length ∧ ∀ b o, b < s.heap.objs.size → s.heap.get? b = some o → h'.get? b = some o) E)
        F.called_set.init.plain F.entry_set_init (check_set_init_1 ty ?_)) fun r2 s2 hr2 => ?_
      · obtain ⟨⟨oc, od, odt, osl⟩, ho, hc, m, hd⟩ := hl
        dsimp only at hc hd
        subst hc hd
        have ho1 : (hE s.heap led).get? l = some { cls := .type "list", dict := od, data := .seq us m, slots := osl } := Heap.get?_push_of_some _ ho
        have hl1 : (hE s.heap led).IsList l us := ⟨_, ho1, rfl, m, rfl⟩
        have y1 := F.sub_list_set
        have y2 := F.sub_list_frozenset
        have y3 : (Value.type "list" == Value.type "dict") = false := by decide
        unfold Builtin.«set.__init__» noKeywords Builtin.Frozenset.updateFrom
        generalize eI : pyIter = pI
        wp_walk
        subst eI
        refine wpAny_pyIter_list hl1 (wpAny_bind (wpAny_runValue ?_))
        have z1 : l ≠ (hE s.heap led).objs.size := by rw [Heap.size_push]; exact Nat.ne_of_lt (Nat.lt_succ_of_lt hlt)
        have z2 : s.heap.objs.size ∉ [(hE s.heap led).objs.size, l] := by
          rw [Heap.size_push]
          simp only [List.mem_cons, List.not_mem_nil, or_false, not_or]
          exact ⟨Nat.ne_of_lt (Nat.lt_succ_self _), Nat.ne_of_gt hlt⟩
        have hY : ∀ (i : Nat) (v : Value), us[i]? = some v → ∃ x t, xs[i]? = some x ∧ v = .str x t := fun i v e => at_strs hx i v (by rw [Array.getElem?_toList]; exact e)
        refine walk_in ((Walks.list (by simp [hh]) _ l z1 us).toS) z2 nd hz (by omega) hY _ 0 _ rfl (Nat.zero_le _) ⟨⟨_, Heap.get?_push_size _ rfl, rfl, rfl⟩, hl1.push _⟩ ?_ fun s' mv hS => ?_
        · obtain ⟨S, a1, a2⟩ := inS_new (pr := pr) (w := w) (s := s) (led := led) (o := { cls := .type "list_iterator", data := .fields #[.ref l, .int 0 0] })
          exact ⟨S, a1, fun z => by rw [a2 z, List.take_zero, List.take_zero]⟩
        · obtain ⟨h', g', d', tk', os'⟩ := s'
          obtain rfl : g' = s.gens := mv.gens
          obtain rfl : d' = s.drawn := mv.drawn
          obtain rfl : os' = s.os := mv.os
          show wpAny _ _ _ _ _ _
          refine wpAny_pure ?_
          show wpAny _ _ (ret Value.none) _ _ _
          refine wpAny_pure ⟨rfl, h', tk', rfl, by rw [hz]; exact hS, fun b o hb e => ?_⟩
          refine mv.heap b o ?_ (Heap.get?_push_of_some _ (Heap.get?_push_of_some _ e))
          rw [Heap.size_push]
          simp only [List.mem_cons, List.not_mem_nil, or_false, not_or]
          exact ⟨Nat.ne_of_lt hb, Nat.ne_of_lt (Nat.lt_succ_of_lt hb)⟩
      · cases r2 with
        | error e => exact hr2
        | ok f2 =>
          cases f2 with
          | ret v =>
            obtain ⟨e1, h', tk, e2, hS, hk⟩ := hr2
            subst e1 e2
            repeat (any_goals (first | assumption | wp_step))
            exact q _ _ hS hk
          | _ => exact hr2.elim
    | _ => exact hr.elim
end
end KB.SetS
namespace KB
open PySem PySem.Spec PyProof.Rows L2
/-- len(set(xs)) of a list of unlike texts -/
def tLenSetN (K : PySem.W.Frag) (ta : TA) : TE := fun σ H Q => ta σ H fun vs H1 => ∃ l, ∃ xs : List Str, vs = [.ref l] ∧ SqL K H1 l (xs.map V.str) ∧ xs.Nodup ∧ xs.length ≤ 4000 ∧ Q (.int xs.length) H1
theorem pe_lenSetN {X : Cx} {a : Expr} {ta : TA} {p p2 q pos : Pos} (hc : X.calm = true) (hg : Gl X "len") (hm : X.mg "len" = none) (hg2 : Gl X "set") (hm2 : X.mg "set" = none) (ha : PA X [a] ta)
    (na : starEach [a] X.env = (false, eval a X.env) :: starEach [] X.env := by rfl) (hpl : (backTo q (starEach [] X.env)).any (·.1) = false := by rfl) : PE X (.Call (.Name "len" p) [.Call (.Name "set" p2) [a] [] q] [] pos) (tLenSetN X.K ta) := by
  refine ⟨fun pins s σ H Q I h => Call_ (ld_blt I hg hm boot_len ?_)⟩
  refine callWith_builtin1 (args_cons ?_ rfl) rfl rfl
  refine Call_ (ld_blt I hg2 hm2 boot_set ?_)
  refine callWith_type1 (thn (ha.run q pins s σ H _ I h) fun us s1 ⟨vs, H1, I1, r1, q1⟩ => ?_) na hpl
  obtain ⟨l, xs, rfl, hq, nd, hb, q1⟩ := q1
  obtain ⟨u, rfl, ru⟩ := vals1 r1
  cases ru
  obtain ⟨its, r, pl, hz⟩ := I1.list hq
  have hl : its.length = xs.length := by rw [← r.length, List.length_map]
  refine SetS.set_strs (I1.ok.hd hc) pl.isList (strsAre_of r) nd (by unfold scanBound; omega) fun h' tk hS hk => args_nil ?_
  obtain ⟨S, ⟨o, es, ep, t, ho, hex, hd, _, _, _, hf, hn⟩, _⟩ := hS
  have I2 : Inv X pins σ H1 { s1 with heap := h', toks := tk } := I1.kept fun b o e => hk b o (Heap.lt_size e) e
  exact call_len_set ho hex hd hf (by rw [hn]; omega) ⟨.int xs.length, H1, I2.tok _, ⟨_, by rw [hn]⟩, q1⟩
end KB

set_option pp.maxSteps 400
namespace KB
open PySem L2 HT LamX NdefX

section
variable {P : Program} {w : World} {K : PySem.W.Frag} {mg : Str → Option Value} {base : Heap}
/-! ### _law_words_good -/
def spWg : Sp := fun vs H Q _ => ∃ (p : Addr) (es : List N.TEr) (us : List V), vs = [.ref p] ∧ N.TBkAt H es us p ∧ (∀ e ∈ es, N.AnE e ∧ ∃ hF, N.rP hF e.2.2 e.2.1 ["home"]) ∧ ∀ H', Same H H' → Q (.bl true) H'
abbrev s_law_words_good : Stmt := top 51
theorem scLwords_good : FnScope ["found", "name", "names", "part", "words", "posts", "word"] ["found"] (defScope s_law_words_good) := ⟨rfl, rfl, rfl, by decide +kernel, rfl, by decide +kernel, by decide +kernel⟩
theorem ok_wg (T : Txt K mg) (mset : mg "set" = none) {f f1 f2 f3 f4 : Addr} {fd d1 d2 d3 d4 : FuncData} (F : Fun K "_law_words_good" "_law_words_good" s_law_words_good f fd) (G_law_is_word : FnOk P w K mg base CX0 1 f1 d1 ["word"] spIw) (R_law_is_word : Ref K mg "_law_is_word" f1 d1 ["word"])
    (G_law_twords : FnOk P w K mg base CX0 162 f2 d2 ["part"] (N.spTw 161)) (R_law_twords : Ref K mg "_law_twords" f2 d2 ["part"]) (G_law_tposts : FnOk P w K mg base CX0 162 f3 d3 ["part"] (N.spTp 161)) (R_law_tposts : Ref K mg "_law_tposts" f3 d3 ["part"])
    (G_law_stands : FnOk P w K mg base CX0 228 f4 d4 ["part", "names", "hands", "heads"] (spStn 161)) (R_law_stands : Ref K mg "_law_stands" f4 d4 ["part", "names", "hands", "heads"]) : FnOk P w K mg base CX0 229 f fd ["found"] spWg := by
  refine F.ok scLwords_good (fun vs H Q E h => ?_) (fun cdv A outer s H vs Q E hr h => ?_)
  · obtain ⟨p, es, us, rfl, _⟩ := h
    rfl
  obtain ⟨p, es, us, rfl, hB, hE, q⟩ := h
  refine ⟨_, (pss_cons (ps_for PassesOwn.never rfl (pi_tup (pv 0)) (pg_tup rfl (pgs_cons (pg_name (i := 1) scLwords_good.nd rfl (Or.inl rfl)) (pgs_cons (pg_name (i := 2) scLwords_good.nd rfl (Or.inl rfl)) (pgs_cons (pg_name (i := 3) scLwords_good.nd rfl (Or.inl rfl)) pgs_nil)))) (pss_cons (ps_set (i := 4) scLwords_good.nd rfl (Or.inl rfl) (pe_op op_cat (pe_callTy call_list_of (by rfl) T.m_list (by decide +kernel) (pa_cons (pv 2) pa_nil)) (pe_call G_law_twords (hr.mono (by omega)) rfl R_law_twords.m R_law_twords.k R_law_twords.b .nil pass0 (pa_cons (pv 3) pa_nil))))
    (pss_cons (ps_set (i := 5) scLwords_good.nd rfl (Or.inl rfl) (pe_call G_law_tposts (hr.mono (by omega)) rfl R_law_tposts.m R_law_tposts.k R_law_tposts.b .nil pass0 (pa_cons (pv 3) pa_nil)))
    (pss_cons (ps_if (PW.pt (pw_or (pt_cmpR op_lt (pe_lenSetN (by rfl) (by rfl) T.m_len (by rfl) mset (pa_cons (pv 4) pa_nil)) (pe_callB call_len_seq (by rfl) T.m_len PySem.boot_len (pa_cons (pv 4) pa_nil)) (nomark _)) (pw_or1 (pt_cmpR op_lt (pe_lenSetN (by rfl) (by rfl) T.m_len (by rfl) mset (pa_cons (pv 5) pa_nil)) (pe_callB call_len_seq (by rfl) T.m_len PySem.boot_len (pa_cons (pv 5) pa_nil)) (nomark _))))) (pss_one (ps_ret pe_bl)) pss_nil)
    (pss_cons (ps_if (pt_not (pt_val (pe_callB (cr_all rfl) (by rfl) T.m_all (by decide +kernel) (pa_cons (pe_lc (own := [("word", 6)]) (g := gName 6) (tt := tYes) (te := tCall spIw [] E0 (tCons (tVar 6) tNil)) (by rfl) scLwords_good.nd (pi_list (pe_op op_cat (pv 4) (pv 5))) (blkOk_by (own := [("word", 6)]) (N := ["found", "name", "names", "part", "words", "posts", "word"]) (sc := defScope s_law_words_good) (by decide +kernel)) (fun _ _ _ _ _ => (pg_name (i := 6) scLwords_good.nd rfl (Or.inl rfl))) (fun _ _ _ _ _ => pts_nil) (fun _ _ _ _ _ => (pe_call G_law_is_word (hr.mono (by omega)) rfl R_law_is_word.m R_law_is_word.k R_law_is_word.b .nil pass0 (pa_cons (pv 6) pa_nil)))) pa_nil)))) (pss_one (ps_ret pe_bl)) pss_nil)
    (pss_one (ps_if (pt_not (pt_val (pe_call G_law_stands hr rfl R_law_stands.m R_law_stands.k R_law_stands.b .nil pass0 (pa_cons (pv 3) (pa_cons (pe_callTy call_list_of (by rfl) T.m_list (by decide +kernel) (pa_cons (pv 2) pa_nil)) (pa_cons (pe_lst (pa_cons pe_str pa_nil)) (pa_cons pe_dnewK pa_nil))))))) (pss_one (ps_ret pe_bl)) pss_nil)))))))
    (pss_one (ps_ret pe_bl))), ?_⟩
  refine ⟨_, rfl, p, rfl, ⟨_, SqT.of hB.1⟩, for_tup (K := K) (a := p) (xs := us) (fun i σ H' => ∃ o1 o2 o3 o4 o5, σ = [some (.ref p), o1, o2, o3, o4, o5, none] ∧ Same H H') ⟨_, _, _, _, _, rfl, Same.refl _⟩ ?_ ?_ ?_⟩
  · rintro i σ H' _ ⟨_, _, _, _, _, rfl, s1⟩
    exact SqT.of (s1 _ _ hB.1)
  · rintro i x σ H1 hx ⟨o1, o2, o3, o4, o5, rfl, s1⟩
    obtain ⟨e, he, qa, r, b, rfl, g1, g2, g3⟩ := hB.2.get hx
    obtain ⟨aE, hF, hrP⟩ := hE e (mem_of_get he)
    have r1 := s1 _ _ g2
    have p1 := PAt.tk (tk_same s1) g3
    refine ⟨qa, _, rfl, SqT.of (s1 _ _ g1), rfl, _, _, rfl, _, _, rfl, _, _, rfl, rfl, ?_⟩
    -- words
    refine ⟨_, rfl, r, _, rfl, .inr (SqT.of r1), fun l2 hl2 => ?_⟩
    have s2 := same_new hl2 (.lst (e.2.1.map V.str))
    have g5 : upd H1 l2 (.lst (e.2.1.map V.str)) l2 = some (.lst (e.2.1.map V.str)) := upd_same
    generalize upd H1 l2 (.lst (e.2.1.map V.str)) = H2 at s2 g5
    refine ⟨_, rfl, b, e.2.2, rfl, PAt.tk (tk_same s2) p1, aE.cn, Nat.le_trans aE.cn (by decide), fun l3 H3 hl3 s3 h3 => ?_⟩
    have hwl := aE.l.wl
    have hjl := aE.l.jl
    have e1 : (N.wsE e).length = e.2.1.length + (N.wP e.2.2).length := List.length_append
    refine ⟨l2, l3, _, _, rfl, rfl, s3 _ _ g5, h3, sz (by rw [List.length_map, List.length_map]; omega), fun l4 hl4 => ?_⟩
    have s4 := same_new hl4 (.lst (e.2.1.map V.str ++ (N.wP e.2.2).map V.str))
    have h4 : upd H3 l4 (.lst (e.2.1.map V.str ++ (N.wP e.2.2).map V.str)) l4 = some (.lst ((N.wsE e).map V.str)) := by
      rw [upd_same]
      show _ = some (HO.lst ((e.2.1 ++ N.wP e.2.2).map V.str))
      rw [List.map_append]
    generalize upd H3 l4 (.lst (e.2.1.map V.str ++ (N.wP e.2.2).map V.str)) = H4 at s4 h4
    have s24 := s2.trans (s3.trans s4)
    -- posts
    refine ⟨_, rfl, b, e.2.2, rfl, PAt.tk (tk_same s24) p1, aE.cn, Nat.le_trans aE.cn (by decide), fun l6 H6 hl6 s6 h6 => ?_⟩
    replace h6 : H6 l6 = some (.lst ((N.jsE e).map V.str)) := h6
    have s16 := s24.trans s6
    have h46 := s6 _ _ h4
    refine ⟨_, rfl, l4, N.wsE e, rfl, SqL.of h46, aE.un, by omega, ?_⟩
    refine ⟨_, rfl, l4, _, rfl, .inl (SqL.of h46), _, _, rfl, rfl, _, rfl, itF (decide_eq_false (by rw [List.length_map]; omega)) ?_⟩
    refine ⟨_, rfl, l6, N.jsE e, rfl, SqL.of h6, aE.uj, by omega, ?_⟩
    refine ⟨_, rfl, l6, _, rfl, .inl (SqL.of h6), _, _, rfl, rfl, _, rfl, itF (decide_eq_false (by rw [List.length_map]; omega)) ?_⟩
    refine ⟨_, rfl, _, rfl, l4, l6, _, _, rfl, rfl, h46, h6, sz (by rw [List.length_map, List.length_map]; show _ + (N.jsE e).length ≤ _; omega), fun l7 hl7 => ?_⟩
    have s7 := same_new hl7 (.lst ((N.wsE e).map V.str ++ (N.jsE e).map V.str))
    have h7 : upd H6 l7 (.lst ((N.wsE e).map V.str ++ (N.jsE e).map V.str)) l7 = some (.lst ((N.wsE e ++ N.jsE e).map V.str)) := by
      rw [upd_same, List.map_append]
    generalize upd H6 l7 (.lst ((N.wsE e).map V.str ++ (N.jsE e).map V.str)) = H7 at s7 h7
    have s17 := s16.trans s7
    have hw : ∀ y ∈ N.wsE e ++ N.jsE e, isW y = true := fun y hy => by
      rcases List.mem_append.mp hy with z | z
      · rcases List.mem_append.mp z with u | u
        · exact aE.ns y u
        · exact N.aP_ww aE.a y u
      · exact (N.aP_jw aE.a y z).1
    have hle : (N.wsE e ++ N.jsE e).length ≤ 400 := by
      rw [List.length_append]; omega
    refine ⟨l7, rfl, ⟨_, SqL.of h7⟩, fun D hD => lc_list (K := K) (a := l7) (xs := (N.wsE e ++ N.jsE e).map V.str) (fun j H' => Same H7 H' ∧ H' D = some (.lst ((List.replicate j true).map V.bl))) ⟨same_new hD _, upd_same⟩ ?_ ?_ ?_⟩
    · rintro j H' _ ⟨s8, _⟩
      exact SqL.of (s8 _ _ h7)
    · rintro j y H8 hy ⟨s8, h8⟩
      rw [List.getElem?_map] at hy
      obtain ⟨z, hz, rfl⟩ : ∃ z, (N.wsE e ++ N.jsE e)[j]? = some z ∧ V.str z = y := by
        cases e0 : (N.wsE e ++ N.jsE e)[j]? with
        | none => rw [e0] at hy; cases hy
        | some z => rw [e0] at hy; exact ⟨z, rfl, Option.some.inj hy⟩
      obtain ⟨hj, hj2⟩ := List.getElem?_eq_some_iff.mp hz
      refine ⟨rfl, ?_⟩
      dsimp only [tYes]
      refine iteT ⟨_, rfl, z, rfl, hw z (mem_of_get hz), fun H9 s9 => ⟨_, s9 _ _ h8, Nat.lt_of_le_of_lt (m := 400) (by rw [List.length_map, List.length_replicate]; omega) (by decide), same_mut (s8.trans s9) hD, ?_⟩⟩
      rw [upd_same, List.replicate_succ', List.map_append]
      rfl
    rintro H8 ⟨s8, h8⟩
    refine ⟨D, _, rfl, SqL.of h8, ?_⟩
    rw [all_rep]
    refine ⟨true, rfl, itF rfl ?_⟩
    have s18 := s17.trans s8
    have r8 := s18 _ _ r1
    refine ⟨_, rfl, _, rfl, r, _, rfl, .inr (SqT.of r8), fun m1 hm1 => ?_⟩
    have s9 := same_new hm1 (.lst (e.2.1.map V.str))
    have g9 : upd H8 m1 (.lst (e.2.1.map V.str)) m1 = some (.lst (e.2.1.map V.str)) := upd_same
    generalize upd H8 m1 (.lst (e.2.1.map V.str)) = H9 at s9 g9
    refine ⟨sz (by show 1 ≤ 100000; decide), fun m2 hm2 m3 hm3 => ?_⟩
    have s10 := same_new hm2 (.lst [.str "home"])
    have h10 : upd H9 m2 (.lst [.str "home"]) m2 = some (.lst ((["home"] : List Str).map V.str)) := upd_same
    generalize upd H9 m2 (.lst [.str "home"]) = H10 at s10 h10 hm3 ⊢
    have s11 := same_new hm3 (.dK [])
    have s9a := s9.trans (s10.trans s11)
    refine ⟨b, m1, m2, m3, e.2.2, e.2.1, ["home"], hF, rfl, PAt.tk (tk_same (s18.trans s9a)) p1, hrP, (s10.trans s11) _ _ g9, s11 _ _ h10, aE.cn, Nat.le_refl _, by have := aE.nl; have := aE.cn; omega, by have := aE.cn; show 1 + _ ≤ _; omega, fun H11 s12 => ⟨true, rfl, itF rfl ?_⟩⟩
    exact ⟨_, _, _, _, _, rfl, s1.trans (s18.trans (s9a.trans s12))⟩
  rintro σ H2 ⟨_, _, _, _, _, rfl, s2⟩
  exact q _ s2
end
end KB

namespace KB
open PySem L2 HT

theorem wt_int {z : Int} {k : Nat} (h : z.natAbs < 2 ^ k) : (PyData.int z).weight ≤ k := by
  show (if (z == 0) = true then 0 else z.natAbs.log2 + 1) ≤ k
  split
  · exact Nat.zero_le _
  · rename_i hz
    have hz : z.natAbs ≠ 0 := fun y => hz (by
      have : z = 0 := Int.natAbs_eq_zero.mp y
      rw [this]
      rfl)
    exact (Nat.log2_lt hz).mpr h
theorem wtAll_le {m : Nat} : ∀ {ds : List PyData}, (∀ d ∈ ds, d.weight ≤ m) → PySem.PyData.weightAll ds ≤ ds.length * (m + 1)
  | [], _ => Nat.zero_le _
  | d :: r, h => by
    show d.weight + 1 + PySem.PyData.weightAll r ≤ (r.length + 1) * (m + 1)
    have h1 := h d List.mem_cons_self
    have h2 := wtAll_le fun x hx => h x (List.mem_cons_of_mem _ hx)
    rw [Nat.succ_mul]
    omega
theorem sh_int {z : Int} (h : z.natAbs < 2 ^ 20) : (PyData.int z).showable = true := by
  show decide (z.natAbs.log2 < 1920) = true
  apply decide_eq_true
  by_cases hz : z.natAbs = 0
  · rw [hz]
    decide
  · exact Nat.lt_of_lt_of_le ((Nat.log2_lt hz).mpr h) (by decide)
theorem shAll : ∀ {ds : List PyData}, (∀ d ∈ ds, d.showable = true) → PySem.PyData.showableAll ds = true
  | [], _ => rfl
  | d :: r, h => by
    show (d.showable && PySem.PyData.showableAll r) = true
    rw [h d List.mem_cons_self, shAll fun x hx => h x (List.mem_cons_of_mem _ hx)]
    rfl
theorem isAll : ∀ {ds : List PyData}, (∀ d ∈ ds, d.intsShort 13 = true) → PySem.PyData.intsShortAll 13 ds = true
  | [], _ => rfl
  | d :: r, h => by
    show (d.intsShort 13 && PySem.PyData.intsShortAll 13 r) = true
    rw [h d List.mem_cons_self, isAll fun x hx => h x (List.mem_cons_of_mem _ hx)]
    rfl
theorem is_int {z : Int} (h : z.natAbs < 2 ^ 20) : (PyData.int z).intsShort 13 = true := by
  have e : (2 : Nat) ^ 20 = 1048576 := by decide
  show decide ((PyData.shown (.int z)).length ≤ 13) = true
  exact decide_eq_true (PyData.shown_int_le2 (by omega) (by omega))
/-- what is asked of a thing that is told -/
structure Sho (d : PyData) (n : Nat) : Prop where
  w : d.weight ≤ n
  s : d.showable = true
  i : d.intsShort 13 = true
theorem sho_int {z : Int} {k : Nat} (h : z.natAbs < 2 ^ k) (hk : k ≤ 20) : Sho (.int z) k := by
  have h2 : z.natAbs < 2 ^ 20 := Nat.lt_of_lt_of_le h (Nat.pow_le_pow_right (by decide) hk)
  exact ⟨wt_int h, sh_int h2, is_int h2⟩
theorem sho_str {x : Str} {n : Nat} (h : x.cps.size ≤ n) : Sho (.str x) n := ⟨h, rfl, rfl⟩
theorem sho_tup {ds : List PyData} {m n : Nat} (h : ∀ d ∈ ds, Sho d m) (hn : ds.length * (m + 1) ≤ n) : Sho (.tuple ds) n :=
  ⟨Nat.le_trans (wtAll_le fun d hd => (h d hd).w) hn, shAll fun d hd => (h d hd).s, isAll fun d hd => (h d hd).i⟩
theorem Sho.le {d : PyData} {n m : Nat} (h : Sho d n) (e : n ≤ m) : Sho d m := ⟨Nat.le_trans h.w e, h.s, h.i⟩
/-- a tuple told piece by piece -/
theorem sho_cons {d : PyData} {ds : List PyData} {a b : Nat} (h : Sho d a) (r : Sho (.tuple ds) b) : Sho (.tuple (d :: ds)) (a + 1 + b) := by
  have h1 := h.w
  have h2 : PySem.PyData.weightAll ds ≤ b := r.w
  refine ⟨?_, ?_, ?_⟩
  · show d.weight + 1 + PySem.PyData.weightAll ds ≤ _
    omega
  · show (d.showable && PySem.PyData.showableAll ds) = true
    rw [h.s, show PySem.PyData.showableAll ds = true from r.s]
    rfl
  · show (d.intsShort 13 && PySem.PyData.intsShortAll 13 ds) = true
    rw [h.i, show PySem.PyData.intsShortAll 13 ds = true from r.i]
    rfl
theorem sho_nil : Sho (.tuple []) 0 := ⟨Nat.le_refl 0, rfl, rfl⟩
theorem isW_size {x : Str} (h : isW x = true) : x.cps.size ≤ 8 := by
  unfold isW at h
  simp only [Bool.and_eq_true, decide_eq_true_eq] at h
  exact h.1.2.2
theorem sho_pd : ∀ {t : Tm}, okT t → Sho (N.pd t) (21 * cnt t - 1) := by
  have fnw : ∀ {n : Nat} {k : _root_.Fin n → Tm}, (∀ i, Sho (N.pd (k i)) (21 * cnt (k i) - 1)) → Sho (.tuple (List.ofFn fun i => N.pd (k i))) (21 * cnts (List.ofFn k)) := by
    intro n
    induction n with
    | zero => intro k _; exact ⟨Nat.zero_le _, rfl, rfl⟩
    | succ n ih =>
      intro k h
      rw [List.ofFn_succ, List.ofFn_succ, cnts_cons]
      have h0 := h 0
      have hp := cnt_pos (k 0)
      exact (sho_cons h0 (ih (k := fun i => k i.succ) fun i => h i.succ)).le (by omega)
  intro t
  induction t with
  | mk h n k ih =>
    rintro ⟨o, r⟩
    have f := fnw (k := k) fun i => ih i (r i)
    have hc : cnt (.mk h n k) = 1 + cnts (List.ofFn k) := cnt_mk
    rw [hc]
    show Sho (N.pdH h (List.ofFn fun i => N.pd (k i))) _
    generalize (List.ofFn fun i => N.pd (k i)) = ds at f
    have lit : ∀ {x : Str}, x.cps.size ≤ 8 → Sho (.str x) 8 := fun h => sho_str h
    cases h with
    | num z =>
      have o : 0 ≤ z ∧ z < 1000 := o
      refine (sho_cons (lit (by decide +kernel)) (sho_cons (sho_int (k := 10) (by have : (2 : Nat) ^ 10 = 1024 := by decide
                                                                                  omega) (by decide)) sho_nil)).le (by omega)
    | nam x => exact (sho_cons (lit (by decide +kernel)) (sho_cons (lit (isW_size o)) sho_nil)).le (by omega)
    | lett x => exact (sho_cons (lit (by decide +kernel)) (sho_cons (lit (isW_size o)) f)).le (by omega)
    | ask x => exact (sho_cons (a := 3) (sho_str (by decide +kernel)) (sho_cons (a := 8) (lit (isW_size o)) (sho_cons f sho_nil))).le (by omega)
    | _ => exact (sho_cons (lit (by decide +kernel)) f).le (by omega)
structure Fit6 (d : PyData) : Prop where
  sh : SeqAt.shaped d = true
  sw : d.showable = true
  nd : d.hasDict = false
  dp : d.depth ≤ 64
  ln : d.shown.length ≤ sizeLine

theorem isV_size {x : Str} (h : isV x = true) : x.cps.size ≤ 8 := by
  unfold isV at h
  rw [Bool.or_eq_true, Bool.or_eq_true] at h
  rcases h with (h | h) | h
  · exact isW_size h
  · rw [of_decide_eq_true h]; decide +kernel
  · rw [of_decide_eq_true h]; decide +kernel
theorem sho_strs {xs : List Str} (h : ∀ x ∈ xs, isW x = true) : Sho (.tuple (xs.map PyData.str)) (9 * xs.length) := sho_tup (m := 8) (fun d hd => by
  obtain ⟨x, hx, rfl⟩ := List.mem_map.mp hd
  exact sho_str (isW_size (h x hx))) (by rw [List.length_map]; omega)
theorem sho_pds : ∀ {ts : List Tm}, (∀ t ∈ ts, okT t) → Sho (.tuple (ts.map N.pd)) (21 * cnts ts)
  | [], _ => sho_nil
  | t :: r, h => by
    have h1 := sho_pd (h t List.mem_cons_self)
    have h2 := sho_pds fun u hu => h u (List.mem_cons_of_mem _ hu)
    have hp := cnt_pos t
    rw [cnts_cons]
    exact (sho_cons h1 h2).le (by omega)
theorem sho_pP {ws js : List Str} (hj : ∀ j ∈ js, j.cps.size ≤ 8) : ∀ {p : Pt}, N.aP ws js p → Sho (N.pdP p) (30 * N.ncnt p - 1)
  | .give j t, h => by
    have e : N.ncnt (.give j t) = 1 + cnt t := rfl
    have hp := cnt_pos t
    rw [e]
    exact (sho_cons (a := 4) (sho_str (by decide +kernel)) (sho_cons (sho_str (hj j h.1)) (sho_cons (sho_pd h.2.s.ok) sho_nil))).le (by omega)
  | .ask f ts j, h => by
    have e : N.ncnt (.ask f ts j) = 1 + cnts ts := rfl
    rw [e]
    exact (sho_cons (a := 3) (sho_str (by decide +kernel)) (sho_cons (sho_str (isV_size h.2.1)) (sho_cons (sho_pds fun t ht => (h.2.2.2 t ht).s.ok) (sho_cons (sho_str (hj j h.1)) sho_nil)))).le (by omega)
  | .tell x t p, h => by
    have e : N.ncnt (.tell x t p) = 1 + cnt t + N.ncnt p := rfl
    have hp := cnt_pos t
    have r := sho_pP hj h.2.2
    rw [e]
    exact (sho_cons (a := 4) (sho_str (by decide +kernel)) (sho_cons (sho_str (isW_size h.1.1)) (sho_cons (sho_pd h.2.1.s.ok) (sho_cons r sho_nil)))).le (by omega)
  | .lett x t p, h => by
    have e : N.ncnt (.lett x t p) = 1 + cnt t + N.ncnt p := rfl
    have hp := cnt_pos t
    have r := sho_pP hj h.2.2
    rw [e]
    exact (sho_cons (a := 3) (sho_str (by decide +kernel)) (sho_cons (sho_str (isW_size h.1.1)) (sho_cons (sho_pd h.2.1.s.ok) (sho_cons r sho_nil)))).le (by omega)
  | .iff t p q, h => by
    have e : N.ncnt (.iff t p q) = 1 + cnt t + N.ncnt p + N.ncnt q := rfl
    have hp := cnt_pos t
    have r := sho_pP hj h.2.1
    have r2 := sho_pP hj h.2.2
    rw [e]
    exact (sho_cons (a := 2) (sho_str (by decide +kernel)) (sho_cons (sho_pd h.1.s.ok) (sho_cons r (sho_cons r2 sho_nil)))).le (by omega)
  | .post j x p q, h => by
    have e : N.ncnt (.post j x p q) = 1 + N.ncnt p + N.ncnt q := rfl
    have r := sho_pP hj h.2.2.1
    have r2 := sho_pP hj h.2.2.2
    rw [e]
    exact (sho_cons (a := 4) (sho_str (by decide +kernel)) (sho_cons (sho_str (isW_size h.1.1)) (sho_cons (sho_str (isW_size h.2.1.1)) (sho_cons r (sho_cons r2 sho_nil))))).le (by omega)
theorem tb_fit {es : List N.TEr} (h6 : es.length ≤ 6) (h : ∀ e ∈ es, N.AnE e) : Fit6 (N.pdB es) := by
  have one : ∀ e ∈ es, (N.pdE e).canLay0 = true ∧ (N.pdE e).depth ≤ 57 ∧ Sho (N.pdE e) 120100 := fun e he => by
    have g := h e he
    refine ⟨?_, ?_, ?_⟩
    · exact N.lay_cons (N.lay_strV g.w) (N.lay_cons (N.layAll fun d hd => by
        obtain ⟨x, hx, rfl⟩ := List.mem_map.mp hd
        exact N.lay_str (g.ns x hx)) (N.lay_cons (N.lay_pdP g.kp) rfl))
    · refine N.depth_tup (m := 56) fun d hd => ?_
      rcases List.mem_cons.mp hd with z | z
      · rw [z]; exact N.dep_str
      · rcases List.mem_cons.mp z with z | z
        · rw [z]
          exact Nat.le_trans (N.depth_tup (m := 0) fun d hd => by
            obtain ⟨x, hx, rfl⟩ := List.mem_map.mp hd
            exact Nat.le_refl 0) (by decide)
        · rw [List.mem_singleton.mp z]
          exact g.dp
    · have r := sho_pP (fun j hj => by
        rcases List.mem_cons.mp hj with z | z
        · rw [z]; decide +kernel
        · exact isW_size (N.aP_jw g.a j z).1) g.a
      have h1 := g.nc
      have h2 := g.nl
      exact (sho_cons (a := 8) (sho_str (isV_size g.w)) (sho_cons (sho_strs g.ns) (sho_cons r sho_nil))).le (by omega)
  have lay : (N.pdB es).canLay0 = true := N.layAll fun d hd => by
    obtain ⟨e, he, rfl⟩ := List.mem_map.mp hd
    exact (one e he).1
  have dep : (N.pdB es).depth ≤ 58 := N.depth_tup (m := 57) fun d hd => by
    obtain ⟨e, he, rfl⟩ := List.mem_map.mp hd
    exact (one e he).2.1
  have all : Sho (N.pdB es) 800000 := sho_tup (m := 120100) (fun d hd => by
    obtain ⟨e, he, rfl⟩ := List.mem_map.mp hd
    exact (one e he).2.2) (by rw [List.length_map]; omega)
  have lay0 : PyData.layable0 (N.pdB es) = true := by
    show (PyData.canLay0 (N.pdB es) && decide (PyData.depth (N.pdB es) ≤ 64) && decide (PyData.weight (N.pdB es) ≤ 2 ^ 20)) = true
    rw [lay, decide_eq_true (Nat.le_trans dep (by decide)), decide_eq_true (Nat.le_trans all.w (by decide))]
    rfl
  exact ⟨shaped_of lay (Nat.le_trans dep (by decide)), all.s, PyData.hasDict_of_canLay _ lay, Nat.le_trans dep (by decide), Nat.le_trans (PyProof.Rows.shown_le13 lay0 all.i) (by decide)⟩
section
open PySem
variable {X : Cx}
theorem call_repr6 (g : X.A.guards = some []) (hu : X.A.units + 66 < cLine) : CallR X (.builtin "repr") fun xs H Q => ∃ (a : Addr) (d : PyData), xs = [.ref a] ∧ Dp X.K H (.ref a) d ∧ Fit6 d ∧ Q (.str d.shown) H := by
  intro pins s σ H xs us Q I r h
  obtain ⟨a, d, rfl, hd, ft, q⟩ := h
  obtain ⟨u, rfl, t⟩ := vals1 r
  have t : u = .ref a := t
  subst t
  obtain ⟨as, rd⟩ := Dp.reads I d _ _ hd rfl
  refine repr_of_reads' rd ft.sw (fun z => ?_) g (by have := ft.dp; omega) (fun _ _ z => z) (fun h' u tk kp => ⟨.str _, H, I.kept kp, ⟨_, rfl⟩, q⟩) ft.ln
  rw [ft.nd] at z
  cases z
end
theorem u66 {k : Nat} {A : Around} (r : Room k A) : A.units + 66 < cLine := by
  have := r.un
  omega
end KB

set_option pp.maxSteps 400
namespace KB.N
open PySem L2 HT LamX NdefX

/-! ### the words of a term -/
theorem pre_lets : ∀ t : Tm, (TrT.pre t).filterMap letW = letsOf t := by
  intro t
  induction t with
  | mk h n k ih =>
    rw [lets_mk, TrT.pre_mk, List.filterMap_cons]
    have e : ∀ l : List Tm, (∀ u ∈ l, (TrT.pre u).filterMap letW = letsOf u) → ((l.map TrT.pre).flatten).filterMap letW = letsL l := by
      intro l
      induction l with
      | nil => intro _; rfl
      | cons u r ih2 =>
        intro hu
        rw [List.map_cons, List.flatten_cons, List.filterMap_append, hu u List.mem_cons_self, ih2 fun v hv => hu v (List.mem_cons_of_mem _ hv), letsL_cons]
    have e2 := e (List.ofFn k) fun u hu => by
      obtain ⟨i, rfl⟩ := List.mem_ofFn.mp hu
      exact ih i
    cases h with
    | lett y =>
      have : letW (.mk (.lett y) n k) = some y := rfl
      rw [this]
      show y :: _ = [y] ++ _
      rw [← e2]
      rfl
    | _ =>
      show List.filterMap letW _ = [] ++ _
      rw [List.nil_append, ← e2]
      rfl
theorem words_is (xs : List Str) (t : Tm) : wordsIn xs t = xs ++ letsOf t := by
  unfold wordsIn
  rw [pre_lets]
theorem nms_scope {hd : Str → Option Nat} : ∀ {t : Tm} {xs : List Str}, okS hd t xs → ∀ y ∈ nmsT t, y ∈ xs ++ letsOf t := by
  intro t
  induction t with
  | mk h n k ih =>
    intro xs ho y hy
    rw [nms_mk] at hy
    rw [lets_mk]
    rcases List.mem_append.mp hy with z | z
    · cases h with
      | nam x => rw [List.mem_singleton.mp z]; exact List.mem_append_left _ ho.1
      | lett x => rw [List.mem_singleton.mp z]; exact List.mem_append_right _ (List.mem_append_left _ List.mem_cons_self)
      | _ => cases z
    · obtain ⟨l, hl, hy2⟩ := List.mem_flatten.mp z
      obtain ⟨u, hu, rfl⟩ := List.mem_map.mp hl
      obtain ⟨i, rfl⟩ := List.mem_ofFn.mp hu
      have e1 := ih i (ho.2 i) y hy2
      rcases List.mem_append.mp e1 with e1 | e1
      · cases h with
        | lett x =>
          by_cases c : i.val = 1
          · have e1 : y ∈ inn (.lett x) i.val xs := e1
            rw [c] at e1
            have e1 : y ∈ xs ++ [x] := e1
            rcases List.mem_append.mp e1 with e1 | e1
            · exact List.mem_append_left _ e1
            · exact List.mem_append_right _ (List.mem_append_left _ e1)
          · have : inn (.lett x) i.val xs = xs := by
              match i.val, c with
              | 0, _ => rfl
              | 1, c => exact absurd rfl c
              | m + 2, _ => rfl
            rw [this] at e1
            exact List.mem_append_left _ e1
        | _ => exact List.mem_append_left _ e1
      · refine List.mem_append_right _ (List.mem_append_right _ ?_)
        unfold letsL
        exact List.mem_flatten.mpr ⟨_, List.mem_map.mpr ⟨k i, List.mem_ofFn.mpr ⟨i, rfl⟩, rfl⟩, e1⟩
end KB.N
namespace KB
open PySem L2 HT LamX NdefX

theorem at_arA {H : Hp} : ∀ {t : Tm} {a : Addr}, At H t a → arA t := by
  intro t
  induction t with
  | mk hd n k ih =>
    intro a h
    obtain ⟨ys, l, r⟩ := h
    have := l.ar
    unfold Rfs at this
    rw [List.length_ofFn] at this
    exact ⟨this, fun i => ih i (r i)⟩
theorem er_ar {H : Hp} {e : Er} {v : V} (h : ErV H e v) : arA e.2.2 := by
  obtain ⟨_, _, _, _, _, _, hA⟩ := h
  exact at_arA hA
/-! ### there is a turning of each term -/
theorem nw_ex (tk : List Str) (m : Nat) : ∃ w m1, NwR tk m w m1 := by
  have least : ∀ d k : Nat, m + d = k → wordOf k ∉ tk → ∃ k, m ≤ k ∧ wordOf k ∉ tk ∧ ∀ i, m ≤ i → i < k → wordOf i ∈ tk := by
    intro d
    induction d using Nat.strongRecOn with
    | ind d ih =>
      intro k e h
      by_cases c : ∃ i, m ≤ i ∧ i < k ∧ wordOf i ∉ tk
      · obtain ⟨i, h1, h2, h3⟩ := c
        exact ih (i - m) (by omega) i (by omega) h3
      · refine ⟨k, by omega, h, fun i h1 h2 => ?_⟩
        by_cases c2 : wordOf i ∈ tk
        · exact c2
        · exact absurd ⟨i, h1, h2, c2⟩ c
  obtain ⟨k, h1, h2, h3⟩ := free_word tk m
  obtain ⟨k', g1, g2, g3⟩ := least (k - m) k (by omega) h3
  refine ⟨wordOf k', k' + 1, k', g1, ?_, rfl, g2, rfl, g3⟩
  by_cases c : k' ≤ k
  · omega
  · exact absurd (g3 k h1 (by omega)) h3
def ES (tk : List Str) (t : Tm) : Prop := ∀ m, ∃ ls s m2, CpS tk t m ls s m2 ∧ m ≤ m2
def EP (tk : List Str) (t : Tm) : Prop := ∀ x m, ∃ ls m2, CpP tk t x m ls m2 ∧ m ≤ m2
def ED (tk : List Str) (t : Tm) : Prop := ∀ j m, ∃ ls q m2, CpD tk t j m ls q m2 ∧ m ≤ m2
theorem ex_L {tk : List Str} : ∀ {ts : List Tm}, (∀ t ∈ ts, ES tk t) → ∀ m, ∃ ls ss m2, CpL tk ts m ls ss m2 ∧ m ≤ m2
  | [], _, m => ⟨[], [], m, .nil, Nat.le_refl _⟩
  | t :: ts, h, m => by
    obtain ⟨la, s, m1, h1, u1⟩ := h t List.mem_cons_self m
    obtain ⟨lb, ss, m2, h2, u2⟩ := ex_L (fun u hu => h u (List.mem_cons_of_mem _ hu)) m1
    exact ⟨la ++ lb, s :: ss, m2, .cons h1 u1 h2, Nat.le_trans u1 u2⟩
theorem len_one {α : Type} {l : List α} (h : l.length = 1) : ∃ a, l = [a] := by
  match l, h with
  | [a], _ => exact ⟨a, rfl⟩
theorem len_two {α : Type} {l : List α} (h : l.length = 2) : ∃ a b, l = [a, b] := by
  match l, h with
  | [a, b], _ => exact ⟨a, b, rfl⟩
theorem len_three {α : Type} {l : List α} (h : l.length = 3) : ∃ a b c, l = [a, b, c] := by
  match l, h with
  | [a, b, c], _ => exact ⟨a, b, c, rfl⟩
theorem ex_all {tk : List Str} (n : Nat) : ∀ t, cnt t ≤ n → arA t → ES tk t ∧ EP tk t ∧ ED tk t := by
  induction n with
  | zero =>
    intro t h
    have := cnt_pos t
    omega
  | succ n ih =>
    intro t hn ha
    have kd : ∀ u ∈ kidsT t, ES tk u ∧ EP tk u ∧ ED tk u := fun u hu => ih u (by have := cnt_kid hu; omega) (ha.kid hu)
    have har := ha.len
    have flat : lazyH (hdT t) = false → wordH (hdT t) = false → plainH (hdT t) = true → ES tk t → ES tk t ∧ EP tk t ∧ ED tk t := fun h1 h2 h3 hS => by
      refine ⟨hS, fun x m => ?_, fun j m => ?_⟩
      · obtain ⟨ls, s, m2, h, u⟩ := hS m
        exact ⟨_, _, .plain h3 h, u⟩
      · obtain ⟨ls, s, m2, h, u⟩ := hS m
        exact ⟨_, _, _, .give h1 h2 h, u⟩
    have two : ∀ l : Bool, hdT t = (if l = true then Hd.less else Hd.plus) → (kidsT t).length = 2 → ES tk t := fun l e hl m => by
      obtain ⟨ls, ss, m2, h, u⟩ := ex_L (fun u hu => (kd u hu).1) m
      have h2 := h.len
      rw [hl] at h2
      obtain ⟨a, b, rfl⟩ := len_two h2
      exact ⟨ls, _, m2, .op e h, u⟩
    have word : wordS (hdT t) = true → EP tk t → ES tk t := fun h1 hP m => by
      obtain ⟨w, m1, hw⟩ := nw_ex tk m
      obtain ⟨ls, m2, h, u⟩ := hP w m1
      exact ⟨ls, _, m2, .word h1 hw h, Nat.le_trans hw.lt u⟩
    cases hh : hdT t with
    | num z => exact flat (by rw [hh]; rfl) (by rw [hh]; rfl) (by rw [hh]; rfl) fun m => ⟨[], t, m, .leaf (.inl ⟨z, hh⟩), Nat.le_refl _⟩
    | nam z => exact flat (by rw [hh]; rfl) (by rw [hh]; rfl) (by rw [hh]; rfl) fun m => ⟨[], t, m, .leaf (.inr ⟨z, hh⟩), Nat.le_refl _⟩
    | plus =>
      rw [hh] at har
      exact flat (by rw [hh]; rfl) (by rw [hh]; rfl) (by rw [hh]; rfl) (two false hh har)
    | less =>
      rw [hh] at har
      exact flat (by rw [hh]; rfl) (by rw [hh]; rfl) (by rw [hh]; rfl) (two true hh har)
    | tell =>
      rw [hh] at har
      obtain ⟨a, hk⟩ := len_one har
      have ka := kd a (by rw [hk]; simp)
      have hP : EP tk t := fun x m => by
        obtain ⟨la, s, m1, h, u⟩ := ka.1 m
        exact ⟨_, _, .tell hh hk h, u⟩
      have hS := word (by rw [hh]; rfl) hP
      refine ⟨hS, hP, fun j m => ?_⟩
      obtain ⟨ls, s, m2, h, u⟩ := hS m
      exact ⟨_, _, _, .give (by rw [hh]; rfl) (by rw [hh]; rfl) h, u⟩
    | lett y =>
      rw [hh] at har
      obtain ⟨a, b, hk⟩ := len_two har
      have ka := kd a (by rw [hk]; simp)
      have kb := kd b (by rw [hk]; simp)
      refine ⟨fun m => ?_, fun x m => ?_, fun j m => ?_⟩
      · obtain ⟨la, m1, h, u⟩ := ka.2.1 y m
        obtain ⟨lb, s, m2, h2, u2⟩ := kb.1 m1
        exact ⟨_, _, _, .lett hh hk h u h2, Nat.le_trans u u2⟩
      · obtain ⟨la, m1, h, u⟩ := ka.2.1 y m
        obtain ⟨lb, m2, h2, u2⟩ := kb.2.1 x m1
        exact ⟨_, _, .lett hh hk h u h2, Nat.le_trans u u2⟩
      · obtain ⟨la, m1, h, u⟩ := ka.2.1 y m
        obtain ⟨lb, q, m2, h2, u2⟩ := kb.2.2 j m1
        exact ⟨_, _, _, .lett hh hk h u h2, Nat.le_trans u u2⟩
    | iff =>
      rw [hh] at har
      obtain ⟨a, b, c, hk⟩ := len_three har
      have ka := kd a (by rw [hk]; simp)
      have kb := kd b (by rw [hk]; simp)
      have kc := kd c (by rw [hk]; simp)
      have hP : EP tk t := fun x m => by
        obtain ⟨w, m1, hw⟩ := nw_ex tk m
        obtain ⟨la, s, m2, h1, u1⟩ := ka.1 m1
        obtain ⟨lb, qb, m3, h2, u2⟩ := kb.2.2 w m2
        obtain ⟨lc, qc, m4, h3, u3⟩ := kc.2.2 w m3
        exact ⟨_, _, .iff hh hk hw h1 h2 u2 h3 u3, by have := hw.lt; omega⟩
      refine ⟨word (by rw [hh]; rfl) hP, hP, fun j m => ?_⟩
      obtain ⟨la, s, m2, h1, u1⟩ := ka.1 m
      obtain ⟨lb, qb, m3, h2, u2⟩ := kb.2.2 j m2
      obtain ⟨lc, qc, m4, h3, u3⟩ := kc.2.2 j m3
      exact ⟨_, _, _, .iff hh hk h1 h2 u2 h3, by omega⟩
    | ask f =>
      have kS := ex_L fun u hu => (kd u hu).1
      have hP : EP tk t := fun x m => by
        obtain ⟨w, m1, hw⟩ := nw_ex tk m
        obtain ⟨la, ss, m2, h1, u1⟩ := kS m1
        exact ⟨_, _, .ask hh hw h1, by have := hw.lt; omega⟩
      refine ⟨word (by rw [hh]; rfl) hP, hP, fun j m => ?_⟩
      obtain ⟨la, ss, m2, h1, u1⟩ := kS m
      exact ⟨_, _, _, .ask hh h1, u1⟩
/-- a body turned -/
def CpB (xs : List Str) (t : Tm) (p : Pt) : Prop := ∃ ls q m, p = putAh ls q ∧ CpD (wordsIn xs t) t "home" 0 ls q m
theorem cp_ex (xs : List Str) {t : Tm} (h : arA t) : ∃ p, CpB xs t p := by
  obtain ⟨ls, q, m, h1, _⟩ := (ex_all _ t (Nat.le_refl _) h).2.2 "home" 0
  exact ⟨_, ls, q, m, rfl, h1⟩
theorem cp_of {xs : List Str} {t : Tm} {p : Pt} (ha : arA t) (h : RunB xs t p) : CpB xs t p := comB ha h
section
variable {hd : Str → Option Nat} {tk : List Str} {y : Str}
theorem cp_rP {xs : List Str} {t : Tm} {p : Pt} {n : Nat} (H : Has hd n xs xs t) (hc : cnt t ≤ 90) (hx : xs.length ≤ 10) (h : CpB xs t p) : N.rP hd p xs ["home"] ∧ pcnt p ≤ 900 := by
  obtain ⟨ls, q, m, rfl, c⟩ := h
  obtain ⟨b1, b2⟩ := (bnd_ _ _ t (Nat.le_refl _)).2.2 c
  have hl := wordsIn_len xs t
  have h1 := b1.le
  have h2 : 4 * cnt t * ((wordsIn xs t).length + 1) ≤ 360 * 101 := Nat.mul_le_mul (by omega) (by omega)
  refine ⟨(scp_ _ _ t (Nat.le_refl _)).2.2 c ?_ H _ List.mem_cons_self, ?_⟩
  · have : (26 : Nat) ^ 7 = 8031810176 := by decide
    omega
  · rw [pcL_put]
    omega
theorem cp_unlike {xs : List Str} {t : Tm} {p : Pt} (ha : arA t) (hu : (xs ++ letsOf t).Nodup) (h : CpB xs t p) (y : Str) : cwP y p ≤ 1 ∧ (y ∈ xs → cwP y p = 0) := by
  obtain ⟨ls, q, m, rfl, c⟩ := h
  have w := (w_ (wordsIn xs t) y _ t (Nat.le_refl _)).2.2 c
  obtain ⟨n1, n2, n3⟩ := List.nodup_append.mp hu
  rw [cw_put]
  have hn := nb_le1 (tk := wordsIn xs t) (y := y) (m := 0) (m' := m)
  by_cases hy : y ∈ letsOf t
  · have h0 := nb_tk (tk := wordsIn xs t) (y := y) (m := 0) (m' := m) (List.mem_append_right _ (lets_pre _ _ hy))
    have h1 : lcY y (letsOf t) ≤ 1 := List.nodup_iff_count.mp n2 y
    exact ⟨by omega, fun z => absurd rfl (n3 y z y hy)⟩
  · have h1 : lcY y (letsOf t) = 0 := List.count_eq_zero.mpr hy
    refine ⟨by omega, fun z => ?_⟩
    have h0 := nb_tk (tk := wordsIn xs t) (y := y) (m := 0) (m' := m) (List.mem_append_left _ z)
    omega
end
theorem cp_an {hd : Str → Option Nat} {e : Er} {te : N.TEr} (g : GdE hd e) (ga : arA e.2.2) (t1 : te.1 = e.1) (t2 : te.2.1 = e.2.1) (t3 : CpB e.2.1 e.2.2 te.2.2) : N.AnE te := by
  have hn4 := g.n4
  have hcn := g.cn
  obtain ⟨r1, _⟩ := cp_rP (hd := hd) (n := 13) ⟨ga, g.ok, g.dp, g.sc, fun _ z => z, Nat.le_trans g.cn (by decide), by decide⟩ (Nat.le_trans g.cn (by decide)) (Nat.le_trans hn4 (by decide)) t3
  have un := cp_unlike ga g.un t3
  have cw := fun y => cw_words (y := y) (p := te.2.2)
  obtain ⟨ls, q, m, ep, c⟩ := t3
  have b1 := ((bnd_ _ _ e.2.2 (Nat.le_refl _)).2.2 c).2
  have b2 := (nsz_ _ _ e.2.2 (Nat.le_refl _)).2.2 c
  have b3 := (dpt_ _ _ e.2.2 (Nat.le_refl _)).2.2 c
  refine ⟨by rw [t1]; exact isV_of g.w, by rw [t2]; exact g.ws, by rw [t2]; exact hn4, ?_, ?_, ?_, ?_, ?_, ?_⟩
  · refine rP_aP r1 (fun x hx => List.mem_append_left _ (by rw [t2]; exact hx)) (fun j hj => by rw [List.mem_singleton.mp hj]; exact List.mem_cons_self) (fun x hx => List.mem_append_right _ hx) fun j hj => List.mem_cons_of_mem _ hj
  · rw [ep, pcL_put]; omega
  · rw [ep, nLd_put]; omega
  · have : dP te.2.2 ≤ 43 := by rw [ep, dP_put]; omega
    show dP te.2.2 ≤ 56
    omega
  · show (te.2.1 ++ N.wP te.2.2).Nodup
    rw [List.nodup_iff_count]
    intro y
    rw [List.count_append, t2]
    have h1 := cw y
    obtain ⟨u1, u2⟩ := un y
    have h3 : (e.2.1).count y ≤ 1 := List.nodup_iff_count.mp (List.nodup_append.mp g.un).1 y
    by_cases hy : y ∈ e.2.1
    · have := u2 hy
      omega
    · have : (e.2.1).count y = 0 := List.count_eq_zero.mpr hy
      omega
  · show (N.jP te.2.2).Nodup
    rw [List.nodup_iff_count]
    intro y
    have h1 := cw y
    have := (un y).1
    omega
theorem cp_same {hd : Str → Option Nat} {e : Er} {te lt : N.TEr} {c c' : Nat} (g : GdE hd e) (ga : arA e.2.2) (t1 : te.1 = e.1) (t2 : te.2.1 = e.2.1) (t3 : CpB e.2.1 e.2.2 te.2.2) (lw : LwE e lt c c') (hsc : ∀ y ∈ N.nmsT e.2.2, y ∈ wordsIn e.2.1 e.2.2) : c ≤ c' ∧ N.AnL lt ∧ N.anewE lt = N.anewE te := by
  have A := cp_an g ga t1 t2 t3
  obtain ⟨ls, q, m, hp, hD⟩ := t3
  obtain ⟨l1, l2, ls2, q2, hp2, hL⟩ := lw
  obtain ⟨σ, J, _, hc, hF⟩ := (q_all _ e.2.2 (Nat.le_refl _) ga hsc).2.2 hD hL
  obtain ⟨e1, e2⟩ := hF (rn σ) J.cp J.home
  have hr : lt.2.2 = N.calP (rn σ) (rn σ) te.2.2 := by rw [hp2, hp, cal_put, e1, e2]
  have hns : lt.2.1.map (rn σ) = lt.2.1 := by
    rw [l2]
    have : ∀ xs : List Str, (∀ x ∈ xs, rn σ x = x) → xs.map (rn σ) = xs := by
      intro xs
      induction xs with
      | nil => intro _; rfl
      | cons x r ih => intro h; rw [List.map_cons, h x List.mem_cons_self, ih fun y hy => h y (List.mem_cons_of_mem _ hy)]
    exact this _ fun x hx => J.cp.1 x (List.mem_append_left _ hx)
  have el : lt = (te.1, te.2.1, N.calP (rn σ) (rn σ) te.2.2) := by
    obtain ⟨x, y, z⟩ := lt
    have l1 : x = e.1 := l1
    have l2 : y = e.2.1 := l2
    have hr : z = _ := hr
    rw [l1, l2, hr, t1, t2]
  have hns : te.2.1.map (rn σ) = te.2.1 := by
    rw [l2, ← t2] at hns
    exact hns
  have ew : N.wsE lt = (N.wsE te).map (rn σ) := by
    rw [el]
    show te.2.1 ++ N.wP (N.calP (rn σ) (rn σ) te.2.2) = (te.2.1 ++ N.wP te.2.2).map (rn σ)
    rw [N.wP_cal, List.map_append, hns]
  have ej : N.jsE lt = (N.jsE te).map (rn σ) := by
    rw [el]
    exact N.jP_cal te.2.2
  have wW : ∀ x ∈ N.wsE te, isW x = true := fun x hx => by
    rcases List.mem_append.mp hx with z | z
    · exact A.ns x z
    · exact aP_isW A.a x z
  have jW : ∀ x ∈ N.jsE te, isW x = true := fun x hx => (N.aP_jw A.a x hx).1
  have iw : ∀ x ∈ N.wsE te, ∀ y ∈ N.wsE te, rn σ x = rn σ y → x = y := fun x hx y hy => J.inj (wW x hx) (wW y hy)
  have ij : ∀ x ∈ N.jsE te, ∀ y ∈ N.jsE te, rn σ x = rn σ y → x = y := fun x hx y hy => J.inj (jW x hx) (jW y hy)
  have nh : ∀ x ∈ N.jsE te, rn σ x ≠ "home" := fun x hx z => by
    rcases J.cases x with ⟨_, a⟩ | ⟨p, _, _, p2, i, p3⟩
    · rw [a] at z
      exact N.not_home (jW x hx) z
    · rw [p2, p3] at z
      exact sW_home i z
  have gw : ∀ y ∈ N.wsE te, N.gW lt (rn σ y) = N.gW te y := fun y hy => by
    show N.numW (N.wsE lt) (rn σ y) = N.numW (N.wsE te) y
    rw [ew]
    exact num_map A.un iw hy
  have gj : ∀ j ∈ ("home" :: N.jsE te : List Str), N.gJ lt (rn σ j) = N.gJ te j := fun j hj => by
    rcases List.mem_cons.mp hj with z | z
    · rw [z, J.home, N.gJ_home, N.gJ_home]
    · rw [(A.gj z).2]
      show (if rn σ j = "home" then ("home" : Str) else N.numW (N.jsE lt) (rn σ j)) = _
      rw [if_neg (nh j z), ej]
      exact num_map A.uj ij z
  refine ⟨hc, ⟨?_, ?_, ?_, ?_⟩, ?_⟩
  · rw [el]; exact A.nl
  · have := aL_cal (F := rn σ) A.a
    rw [ew, ej, el]
    show N.aL _ _ (N.calP (rn σ) (rn σ) te.2.2)
    rw [List.map_cons, J.home] at this
    exact this
  · rw [el]
    show pcnt (N.calP (rn σ) (rn σ) te.2.2) ≤ 161
    rw [N.pcnt_cal]
    exact A.cn
  · rw [ej]
    intro z
    obtain ⟨y, hy, e⟩ := List.mem_map.mp z
    exact nh y hy e
  · have h1 : N.calP (N.gW lt) (N.gJ lt) lt.2.2 = N.calP (N.gW te) (N.gJ te) te.2.2 := by
      rw [hr]
      exact calP_two gw gj A.a
    have h2 : lt.2.1.map (N.gW lt) = te.2.1.map (N.gW te) := by
      have : lt.2.1 = te.2.1.map (rn σ) := by rw [hns, l2, t2]
      rw [this, List.map_map]
      exact List.map_congr_left fun y hy => gw y (List.mem_append_left _ hy)
    show (lt.1, lt.2.1.map (N.gW lt), N.calP (N.gW lt) (N.gJ lt) lt.2.2) = (te.1, te.2.1.map (N.gW te), N.calP (N.gW te) (N.gJ te) te.2.2)
    rw [h1, h2, l1, t1]
/-! ### the turned book and the law's -/
def TRC : List Er → List N.TEr → Prop
  | [], [] => True
  | e :: es, t :: ts => (t.1 = e.1 ∧ t.2.1 = e.2.1 ∧ CpB e.2.1 e.2.2 t.2.2) ∧ TRC es ts
  | _, _ => False
theorem trc_ex : ∀ {es : List Er}, (∀ e ∈ es, arA e.2.2) → ∃ ts, TRC es ts
  | [], _ => ⟨[], trivial⟩
  | e :: es, h => by
    obtain ⟨p, hp⟩ := cp_ex e.2.1 (h e List.mem_cons_self)
    obtain ⟨ts, ht⟩ := trc_ex fun x hx => h x (List.mem_cons_of_mem _ hx)
    exact ⟨(e.1, e.2.1, p) :: ts, ⟨rfl, rfl, hp⟩, ht⟩
theorem turned_TRC {H : Hp} : ∀ {es : List Er} {vs : List V}, All2 (TurV H) es vs → (∀ e ∈ es, arA e.2.2) → ∃ ts : List N.TEr, All2 (N.TErV H) ts vs ∧ TRC es ts
  | [], [], _, _ => ⟨[], trivial, trivial⟩
  | e :: es, v :: vs, h, ha => by
    obtain ⟨⟨q, r, b, p, e1, g1, g2, g3, g4⟩, h1'⟩ := h
    obtain ⟨ts, k1, k2⟩ := turned_TRC h1' fun x hx => ha x (List.mem_cons_of_mem _ hx)
    exact ⟨(e.1, e.2.1, p) :: ts, ⟨⟨q, r, b, e1, g1, g2, g4⟩, k1⟩, ⟨rfl, rfl, cp_of (ha e List.mem_cons_self) g3⟩, k2⟩
  | [], _ :: _, h, _ => h.elim
  | _ :: _, [], h, _ => h.elim
theorem trc_len : ∀ {es : List Er} {ts : List N.TEr}, TRC es ts → ts.length = es.length
  | [], [], _ => rfl
  | e :: es, t :: ts, h => by rw [List.length_cons, List.length_cons, trc_len h.2]
  | [], _ :: _, h => h.elim
  | _ :: _, [], h => h.elim
theorem trc_an {hF : Str → Option Nat} : ∀ {es : List Er} {ts : List N.TEr}, TRC es ts → (∀ e ∈ es, GdE hF e ∧ arA e.2.2) → ∀ t ∈ ts, N.AnE t ∧ N.rP hF t.2.2 t.2.1 ["home"]
  | [], [], _, _, t, h => nomatch h
  | e :: es, u :: ts, h, ha, t, ht => by
    rcases List.mem_cons.mp ht with z | z
    · obtain ⟨⟨a1, a2, a3⟩, _⟩ := h
      obtain ⟨g, ar⟩ := ha e List.mem_cons_self
      have hn4 := g.n4
      rw [z]
      refine ⟨cp_an g ar a1 a2 a3, ?_⟩
      have := (cp_rP (hd := hF) (n := 13) ⟨ar, g.ok, g.dp, g.sc, fun _ z => z, Nat.le_trans g.cn (by decide), by decide⟩ (Nat.le_trans g.cn (by decide)) (Nat.le_trans hn4 (by decide)) a3).1
      rw [a2]
      exact this
    · exact trc_an h.2 (fun x hx => ha x (List.mem_cons_of_mem _ hx)) t z
  | [], _ :: _, h, _, _, _ => h.elim
  | _ :: _, [], h, _, _, _ => h.elim
theorem lwB_len : ∀ {es : List Er} {ts : List N.TEr} {c c' : Nat}, LwB es ts c c' → ts.length = es.length
  | [], [], _, _, _ => rfl
  | e :: es, t :: ts, _, _, ⟨_, _, h⟩ => by rw [List.length_cons, List.length_cons, lwB_len h]
  | [], _ :: _, _, _, h => h.elim
  | _ :: _, [], _, _, h => h.elim
theorem lw_book {hF : Str → Option Nat} : ∀ {es : List Er} {tes lts : List N.TEr} {c c' : Nat}, (∀ e ∈ es, GdE hF e ∧ arA e.2.2) → TRC es tes → LwB es lts c c' → (∀ t ∈ lts, N.AnL t) ∧ lts.map N.anewE = tes.map N.anewE
  | [], [], [], _, _, _, _, _ => ⟨(fun _ h => nomatch h), rfl⟩
  | e :: es, te :: tes, lt :: lts, c, c', ha, ht, hl => by
    obtain ⟨⟨a1, a2, a3⟩, h2⟩ := ht
    obtain ⟨c1, l1, l2⟩ := hl
    obtain ⟨g, ar⟩ := ha e List.mem_cons_self
    obtain ⟨b1, b2⟩ := lw_book (fun x hx => ha x (List.mem_cons_of_mem _ hx)) h2 l2
    obtain ⟨_, k2, k3⟩ := cp_same g ar a1 a2 a3 l1 (fun y hy => by
      rw [N.words_is]
      exact N.nms_scope g.sc y hy)
    refine ⟨fun t ht => ?_, by rw [List.map_cons, List.map_cons, k3, b2]⟩
    rcases List.mem_cons.mp ht with z | z
    · rw [z]; exact k2
    · exact b1 t z
  | [], _ :: _, _, _, _, _, h, _ => h.elim
  | _ :: _, [], _, _, _, _, h, _ => h.elim
  | [], [], _ :: _, _, _, _, _, h => h.elim
  | _ :: _, _ :: _, [], _, _, _, _, h => h.elim
end KB

set_option pp.maxSteps 400
namespace KB
open PySem L2 HT LamX NdefX

/-! ### what an errand is called and its words -/
def HdV (H : Hp) (e : Str × List Str) (v : V) : Prop := ∃ q r, v = .ref q ∧ H q = some (.tup [.str e.1, .ref r]) ∧ H r = some (.tup (e.2.map V.str))
theorem HdV.tk {H H' : Hp} (t : TK H H') {e : Str × List Str} {v : V} (h : HdV H e v) : HdV H' e v := let ⟨q, r, e1, h1, h2⟩ := h; ⟨q, r, e1, t _ _ h1, t _ _ h2⟩
def pdHd (e : Str × List Str) : PyData := .tuple [.str e.1, .tuple (e.2.map PyData.str)]
def pdHds (es : List (Str × List Str)) : PyData := .list (es.map pdHd)
theorem dp_hd {H : Hp} {K : PySem.W.Frag} {e : Str × List Str} {v : V} (h : HdV H e v) : Dp K H v (pdHd e) := by
  obtain ⟨q, r, rfl, h1, h2⟩ := h
  exact .tup (SqT.of h1) (.cons (.str _) (.cons (.tup (SqT.of h2) (dp_strs _)) .nil))
theorem dp_hds {H : Hp} {K : PySem.W.Frag} : ∀ {es : List (Str × List Str)} {vs : List V}, All2 (HdV H) es vs → DpAll K H vs (es.map pdHd)
  | [], [], _ => .nil
  | _ :: _, _ :: _, h => .cons (dp_hd h.1) (dp_hds h.2)
  | [], _ :: _, h => h.elim
  | _ :: _, [], h => h.elim
theorem shaped_hds {es : List (Str × List Str)} (h : ∀ e ∈ es, isV e.1 = true ∧ ∀ x ∈ e.2, isW x = true) : SeqAt.shaped (pdHds es) = true := by
  have lay : (PyData.tuple (es.map pdHd)).canLay0 = true := N.layAll fun d hd => by
    obtain ⟨e, he, rfl⟩ := List.mem_map.mp hd
    exact N.lay_cons (N.lay_strV (h e he).1) (N.lay_cons (N.layAll fun d hd => by
      obtain ⟨x, hx, rfl⟩ := List.mem_map.mp hd
      exact N.lay_str ((h e he).2 x hx)) rfl)
  have dep : (PyData.tuple (es.map pdHd)).depth ≤ 3 := N.depth_tup (m := 2) fun d hd => by
    obtain ⟨e, he, rfl⟩ := List.mem_map.mp hd
    refine N.depth_tup (m := 1) fun d hd => ?_
    rcases List.mem_cons.mp hd with z | z
    · rw [z]; exact N.dep_str
    · rw [List.mem_singleton.mp z]
      exact N.depth_tup (m := 0) fun d hd => by
        obtain ⟨x, hx, rfl⟩ := List.mem_map.mp hd
        exact Nat.le_refl 0
  exact shaped_of (d := pdHds es) lay (Nat.le_trans dep (by decide))
theorem trc_hd : ∀ {es : List Er} {ts : List N.TEr}, TRC es ts → ts.map (fun t => (t.1, t.2.1)) = es.map (fun e => (e.1, e.2.1))
  | [], [], _ => rfl
  | e :: es, t :: ts, h => by
    obtain ⟨⟨a1, a2, _⟩, h2⟩ := h
    rw [List.map_cons, List.map_cons, trc_hd h2, a1, a2]
  | [], _ :: _, h => h.elim
  | _ :: _, [], h => h.elim
theorem bk_arA {H : Hp} : ∀ {es : List Er} {vs : List V}, All2 (ErV H) es vs → ∀ e ∈ es, arA e.2.2
  | [], [], _, _, h => nomatch h
  | e :: es, v :: vs, h, x, hx => by
    rcases List.mem_cons.mp hx with z | z
    · rw [z]; exact er_ar h.1
    · exact bk_arA h.2 x z
  | [], _ :: _, h, _, _ => h.elim
  | _ :: _, [], h, _, _ => h.elim
theorem tb_tk {H H' : Hp} (t : TK H H') {es : List N.TEr} {vs : List V} {p : Addr} (h : N.TBkAt H es vs p) : N.TBkAt H' es vs p := ⟨t _ _ h.1, h.2.imp fun _ _ z => z.tk t⟩
theorem cut_two (a b c : V) : cutV [a, b, c] none (some 2) = [a, b] := rfl
section
variable {P : Program} {w : World} {K : PySem.W.Frag} {mg : Str → Option Value} {base : Heap}
/-! ### _law_right -/
def spRi : Sp := fun vs H Q _ => ∃ (p : Addr) (es : List Er) (us : List V), vs = [.ref p] ∧ BkAt H es us p ∧ es.length ≤ 6 ∧ (∃ hF, ∀ e ∈ es, GdE hF e) ∧ ∀ H', Same H H' → Q (.bl true) H'
abbrev s_law_right : Stmt := top 53
theorem scLright : FnScope ["book", "due", "turn", "found", "errand"] ["book"] (defScope s_law_right) := ⟨rfl, rfl, rfl, by decide +kernel, rfl, by decide +kernel, by decide +kernel⟩
theorem ok_right (T : Txt K mg) (mrepr : mg "repr" = none) {f f1 f2 f3 f4 : Addr} {fd d1 d2 d3 d4 : FuncData} (F : Fun K "_law_right" "_law_right" s_law_right f fd) (Gturn_book : FnOk P w K mg base CX0 7 f1 d1 ["book"] spTBook) (Rturn_book : Ref K mg "turn_book" f1 d1 ["book"])
    (G_law_turned : FnOk P w K mg base CX0 45 f2 d2 ["book"] spLTd) (R_law_turned : Ref K mg "_law_turned" f2 d2 ["book"]) (G_law_anew : FnOk P w K mg base CX0 228 f3 d3 ["turned"] N.spLan) (R_law_anew : Ref K mg "_law_anew" f3 d3 ["turned"])
    (G_law_words_good : FnOk P w K mg base CX0 229 f4 d4 ["found"] spWg) (R_law_words_good : Ref K mg "_law_words_good" f4 d4 ["found"]) : FnG P w K mg base CX0 230 f fd ["book"] spRi := by
  refine okG F scLright (fun vs H Q E h => ?_) (fun cdv A outer s H vs Q E gd hr h => ?_)
  · obtain ⟨p, es, us, rfl, _⟩ := h
    rfl
  obtain ⟨p, es, us, rfl, hB, hl6, ⟨hF, hE⟩, q⟩ := h
  refine ⟨_, (pss_cons (ps_set (i := 1) scLright.nd rfl (Or.inl rfl) (pe_call G_law_anew (hr.mono (by omega)) rfl R_law_anew.m R_law_anew.k R_law_anew.b .nil pass0 (pa_cons (pe_call G_law_turned (hr.mono (by omega)) rfl R_law_turned.m R_law_turned.k R_law_turned.b .nil pass0 (pa_cons (pv 0) pa_nil)) pa_nil)))
    (pss_cons (ps_for PassesOwn.never rfl (pi_range1 rfl T.m_range (pa_cons pe_int pa_nil)) (pg_name (i := 2) scLright.nd rfl (Or.inl rfl)) (pss_cons (ps_set (i := 3) scLright.nd rfl (Or.inl rfl) (pe_call Gturn_book (hr.mono (by omega)) rfl Rturn_book.m Rturn_book.k Rturn_book.b .nil pass0 (pa_cons (pv 0) pa_nil)))
    (pss_cons (ps_if (PW.pt (pw_or (pt_not (pt_val (pe_callB call_isi (by rfl) T.m_isinstance (by decide +kernel) (pa_cons (pv 3) (pa_cons (pe_bltn (v := .ty "tuple") rfl T.m_tuple (by decide +kernel) rfl) pa_nil))))) (pw_or1 (pt_cmpR op_ne (pe_callB call_len_seq (by rfl) T.m_len PySem.boot_len (pa_cons (pv 3) pa_nil)) (pe_callB call_len_seq (by rfl) T.m_len PySem.boot_len (pa_cons (pv 0) pa_nil)) (nomark _))))) (pss_one (ps_ret pe_bl)) pss_nil)
    (pss_one (ps_if (PW.pt (pw_or (pt_cmpR op_ne (pe_callB (call_repr6 gd (u66 hr)) (by rfl) mrepr (by decide +kernel) (pa_cons (pe_call G_law_anew (hr.mono (by omega)) rfl R_law_anew.m R_law_anew.k R_law_anew.b .nil pass0 (pa_cons (pv 3) pa_nil)) pa_nil)) (pe_callB (call_repr6 gd (u66 hr)) (by rfl) mrepr (by decide +kernel) (pa_cons (pv 1) pa_nil)) (nomark _)) (pw_or1 (pt_not (pt_val (pe_call G_law_words_good (hr.mono (by omega)) rfl R_law_words_good.m R_law_words_good.k R_law_words_good.b .nil pass0 (pa_cons (pv 3) pa_nil))))))) (pss_one (ps_ret pe_bl)) pss_nil)))))
    (pss_one (ps_ret (pe_cmpR (op_eqD hr.units) (pe_lc (own := [("errand", 4)]) (g := gName 4) (tt := tYes) (te := tSl (rSlA K) (tVar 4) tNoPart (tPart (tC (.int 2)))) (by rfl) scLright.nd (pi_tup (pv 3)) (blkOk_by (own := [("errand", 4)]) (N := ["book", "due", "turn", "found", "errand"]) (sc := defScope s_law_right) (by decide +kernel)) (fun _ _ _ _ _ => (pg_name (i := 4) scLright.nd rfl (Or.inl rfl))) (fun _ _ _ _ _ => pts_nil) (fun _ _ _ _ _ => (pe_slice sl_tupA (pv 4) po_none (po_some pe_int)))) (pe_lc (own := [("errand", 4)]) (g := gName 4) (tt := tYes) (te := tSl (rSlA K) (tVar 4) tNoPart (tPart (tC (.int 2)))) (by rfl) scLright.nd (pi_tup (pv 0)) (blkOk_by (own := [("errand", 4)]) (N := ["book", "due", "turn", "found", "errand"]) (sc := defScope s_law_right) (by decide +kernel)) (fun _ _ _ _ _ => (pg_name (i := 4) scLright.nd rfl (Or.inl rfl))) (fun _ _ _ _ _ => pts_nil) (fun _ _ _ _ _ => (pe_slice sl_tupA (pv 4) po_none (po_some pe_int)))) (nomark _)))))), ?_⟩
  have ha : ∀ e ∈ es, GdE hF e ∧ arA e.2.2 := fun e he => ⟨hE e he, bk_arA hB.2 e he⟩
  obtain ⟨tes0, ht0⟩ := trc_ex fun e he => (ha e he).2
  have an0 := trc_an ht0 ha
  refine ⟨_, rfl, p, es, us, rfl, hB, hl6, fun e he => ⟨(hE e he).dp.le (by decide), (hE e he).cn⟩, fun r1 H1 lts us1 c1 s1 k1 lw => ?_⟩
  obtain ⟨aL, eL⟩ := lw_book ha ht0 lw
  refine ⟨r1, lts, us1, rfl, k1, by rw [lwB_len lw]; exact hl6, aL, fun r2 H2 us2 s2 k2 => ?_⟩
  rw [eL] at k2
  have s02 := s1.trans s2
  have due := tb_fit (es := tes0.map N.anewE) (by rw [List.length_map, trc_len ht0]; exact hl6) fun e he => by
    obtain ⟨t, ht, rfl⟩ := List.mem_map.mp he
    exact (an0 t ht).1.anew
  refine ⟨2, rfl, by decide, by decide, for_range (lo := 0) (n := 2) (fun i σ H' => ∃ o2 o3, σ = [some (.ref p), some (.ref r2), o2, o3, none] ∧ Same H2 H' ∧ (i = 0 ∨ ∃ p' tes vs, o3 = some (.ref p') ∧ N.TBkAt H' tes vs p' ∧ TRC es tes)) ⟨_, _, rfl, Same.refl _, .inl rfl⟩ ?_ ?_⟩
  · rintro i σ H3 hi ⟨o2, o3, rfl, s3, _⟩
    have s03 := s02.trans s3
    refine ⟨_, rfl, p, es, us, rfl, hB.tk (tk_same s03), hl6, fun e he => ⟨Nat.le_trans (hE e he).cn (by decide), Nat.le_trans (hE e he).n4 (by decide)⟩, fun H4 p' vs s4 h4 k4 => ?_⟩
    obtain ⟨tes, kt, ht⟩ := turned_TRC k4 fun e he => (ha e he).2
    have an := trc_an ht ha
    have eT := (lw_book ha ht lw).2
    have hT : N.TBkAt H4 tes vs p' := ⟨h4, kt⟩
    have hlt := trc_len ht
    have hlv := kt.len
    have hlu := hB.2.len
    refine ⟨_, rfl, .ref p', .ty "tuple", .type "tuple", .type "tuple", true, rfl, .ty "tuple", .base (.tup h4), kit_ty (by decide +kernel), _, rfl, ?_⟩
    refine iteF ⟨_, rfl, p', _, rfl, .inr (SqT.of h4), _, rfl, p, _, rfl, .inr (SqT.of ((s03.trans s4) _ _ hB.1)), ?_⟩
    have elen : vs.length = us.length := by omega
    refine ⟨rfl, _, rfl, itF (by rw [elen, decide_eq_true rfl]; rfl) ?_⟩
    refine ⟨_, rfl, p', tes, vs, rfl, hT, by omega, fun t ht => (an t ht).1.l, fun r5 H5 us5 s5 k5 => ?_⟩
    rw [← eT, eL] at k5
    refine ⟨r5, N.pdB (tes0.map N.anewE), rfl, N.dp_bk k5, due, _, rfl, r2, N.pdB (tes0.map N.anewE), rfl, N.dp_bk (tb_tk (tk_same (s3.trans (s4.trans s5))) k2), due, rfl, _, rfl, itF (by rw [decide_eq_true rfl]; rfl) ?_⟩
    refine ⟨_, rfl, p', tes, vs, rfl, tb_tk (tk_same s5) hT, fun t ht => ⟨(an t ht).1, hF, (an t ht).2⟩, fun H6 s6 => ⟨true, rfl, itF rfl ?_⟩⟩
    exact ⟨_, _, rfl, s3.trans (s4.trans (s5.trans s6)), .inr ⟨p', tes, vs, rfl, tb_tk (tk_same (s5.trans s6)) hT, ht⟩⟩
  rintro σ H3 ⟨o2, o3, rfl, s3, h | ⟨p', tes, vs, rfl, hT, ht⟩⟩
  · cases h
  have s03 := s02.trans s3
  have an := trc_an ht ha
  have hlt := trc_len ht
  have hlv := hT.2.len
  have hlu := hB.2.len
  refine ⟨_, rfl, p', rfl, ⟨_, SqT.of hT.1⟩, fun D hD => lc_tup (K := K) (a := p') (xs := vs) (fun i H' => Same H3 H' ∧ ∃ acc, H' D = some (.lst acc) ∧ All2 (HdV H') ((tes.take i).map fun t => (t.1, t.2.1)) acc) ⟨same_new hD _, [], upd_same, by rw [List.take_zero]; trivial⟩ ?_ ?_ ?_⟩
  · rintro i H' _ ⟨s4, _⟩
    exact SqT.of (s4 _ _ hT.1)
  · rintro i x H4 hx ⟨s4, acc, h4, k4⟩
    obtain ⟨e, he, qa, r, b, rfl, g1, g2, g3⟩ := hT.2.get hx
    obtain ⟨hj, hj2⟩ := List.getElem?_eq_some_iff.mp he
    have hle := k4.len
    rw [List.length_map, List.length_take] at hle
    refine ⟨rfl, ?_⟩
    dsimp only [tYes]
    refine iteT ⟨_, rfl, _, rfl, qa, _, rfl, SqT.of (s4 _ _ g1), ?_, ?_⟩
    · exact fun z => absurd z (by show ¬ (HT.sIx 3 0 none = 0 ∧ HT.sIx 3 3 (some 2) = 3); decide)
    · intro _ p5 hp5
      rw [cut_two]
      have s5 := same_new hp5 (.tup [V.str e.1, .ref r])
      have h5 : upd H4 p5 (.tup [V.str e.1, .ref r]) p5 = some (.tup [V.str e.1, .ref r]) := upd_same
      generalize upd H4 p5 (.tup [V.str e.1, .ref r]) = H5 at s5 h5 ⊢
      have s35 := s4.trans s5
      refine ⟨acc, s5 _ _ h4, Nat.lt_of_le_of_lt (m := 6) (by omega) (by decide), same_mut s35 hD, _, upd_same, ?_⟩
      have tk : TK H5 (upd H5 D (.lst (acc ++ [V.ref p5]))) := tk_put (s5 _ _ h4)
      rw [List.take_succ_eq_append_getElem hj, hj2, List.map_append]
      exact (k4.imp fun _ _ z => (z.tk (tk_same s5)).tk tk).app ⟨⟨p5, r, rfl, tk _ _ h5, tk _ _ (s35 _ _ g2)⟩, trivial⟩
  rintro H4 ⟨s4, acc, h4, k4⟩
  rw [hlv, List.take_length] at k4
  have hB4 := hB.tk (tk_same (s03.trans s4))
  refine ⟨_, rfl, p, rfl, ⟨_, SqT.of hB4.1⟩, fun D2 hD2 => lc_tup (K := K) (a := p) (xs := us) (fun i H' => Same H4 H' ∧ ∃ acc2, H' D2 = some (.lst acc2) ∧ All2 (HdV H') ((es.take i).map fun t => (t.1, t.2.1)) acc2) ⟨same_new hD2 _, [], upd_same, by rw [List.take_zero]; trivial⟩ ?_ ?_ ?_⟩
  · rintro i H' _ ⟨z4, _⟩
    exact SqT.of (z4 _ _ hB4.1)
  · rintro i x H6 hx ⟨z4, acc2, y4, x4⟩
    obtain ⟨e, he, qa, r, b, rfl, g1, g2, g3⟩ := hB4.2.get hx
    obtain ⟨hj, hj2⟩ := List.getElem?_eq_some_iff.mp he
    have hle := x4.len
    rw [List.length_map, List.length_take] at hle
    refine ⟨rfl, ?_⟩
    dsimp only [tYes]
    refine iteT ⟨_, rfl, _, rfl, qa, _, rfl, SqT.of (z4 _ _ g1), ?_, ?_⟩
    · exact fun z => absurd z (by show ¬ (HT.sIx 3 0 none = 0 ∧ HT.sIx 3 3 (some 2) = 3); decide)
    · intro _ p5 hp5
      rw [cut_two]
      have s5 := same_new hp5 (.tup [V.str e.1, .ref r])
      have h5 : upd H6 p5 (.tup [V.str e.1, .ref r]) p5 = some (.tup [V.str e.1, .ref r]) := upd_same
      generalize upd H6 p5 (.tup [V.str e.1, .ref r]) = H5 at s5 h5 ⊢
      have s35 := z4.trans s5
      refine ⟨acc2, s5 _ _ y4, Nat.lt_of_le_of_lt (m := 6) (by omega) (by decide), same_mut s35 hD2, _, upd_same, ?_⟩
      have tk : TK H5 (upd H5 D2 (.lst (acc2 ++ [V.ref p5]))) := tk_put (s5 _ _ y4)
      rw [List.take_succ_eq_append_getElem hj, hj2, List.map_append]
      exact (x4.imp fun _ _ z => (z.tk (tk_same s5)).tk tk).app ⟨⟨p5, r, rfl, tk _ _ h5, tk _ _ (s35 _ _ g2)⟩, trivial⟩
  rintro H6 ⟨s6, acc2, h6, k6⟩
  rw [hlu, List.take_length] at k6
  have hV : ∀ e ∈ es.map (fun e => (e.1, e.2.1)), isV e.1 = true ∧ ∀ x ∈ e.2, isW x = true := fun e he => by
    obtain ⟨u, hu, rfl⟩ := List.mem_map.mp he
    exact ⟨isV_of (hE u hu).w, (hE u hu).ws⟩
  have sh := shaped_hds hV
  rw [trc_hd ht] at k4
  refine ⟨pdHds (es.map (fun e => (e.1, e.2.1))), pdHds (es.map (fun e => (e.1, e.2.1))), .lst (SqL.of (s6 _ _ h4)) (dp_hds (k4.imp fun _ _ z => z.tk (tk_same s6))), .lst (SqL.of h6) (dp_hds k6), sh, sh, ?_⟩
  rw [N.eqv_self sh]
  exact q _ (s03.trans (s4.trans s6))
end
end KB

set_option pp.maxSteps 400
namespace KB
open PySem L2 HT LamX NdefX

section
variable {P : Program} {w : World} {K : PySem.W.Frag} {mg : Str → Option Value} {base : Heap}
/-! ### law -/
def spLaw (K : PySem.W.Frag) : Sp := fun vs H Q _ => ∃ (a : Addr) (ns : List Int), vs = [.ref a] ∧ SqL K H a (ns.map V.int) ∧ ns.length ≤ 63 ∧ ∀ H', Q (.bl true) H'
abbrev slaw : Stmt := top 54
theorem sclaw : FnScope ["script", "tape", "book"] ["script"] (defScope slaw) := ⟨rfl, rfl, rfl, by decide +kernel, rfl, by decide +kernel, by decide +kernel⟩
theorem ok_law (T : Txt K mg) {f f1 f2 f3 f4 f5 : Addr} {fd d1 d2 d3 d4 d5 : FuncData} (F : Fun K "law" "law" slaw f fd)
    (G_law_book : FnOk P w K mg base CX0 30 f1 d1 ["script", "start"] (spBook K)) (R_law_book : Ref K mg "_law_book" f1 d1 ["script", "start"])
    (G_law_tape : FnOk P w K mg base CX0 2 f2 d2 ["script", "k"] (spTape K)) (R_law_tape : Ref K mg "_law_tape" f2 d2 ["script", "k"])
    (G_law_words : FnOk P w K mg base CX0 2 f3 d3 ["tape", "many"] spWords) (R_law_words : Ref K mg "_law_words" f3 d3 ["tape", "many"])
    (G_law_told_book : FnOk P w K mg base CX0 1 f4 d4 ["words"] spTold) (R_law_told_book : Ref K mg "_law_told_book" f4 d4 ["words"])
    (G_law_right : FnG P w K mg base CX0 230 f5 d5 ["book"] spRi) (R_law_right : Ref K mg "_law_right" f5 d5 ["book"]) : FnG P w K mg base CX0 231 f fd ["script"] (spLaw K) := by
  refine okG F sclaw (fun vs H Q E h => ?_) (fun cdv A outer s H vs Q E gd hr h => ?_)
  · obtain ⟨a, ns, rfl, _⟩ := h
    rfl
  obtain ⟨sc, ns, rfl, hS, hn63, q⟩ := h
  refine ⟨_, (pss_cons (ps_set (i := 1) sclaw.nd rfl (Or.inl rfl) (pe_call G_law_tape (hr.mono (by omega)) rfl R_law_tape.m R_law_tape.k R_law_tape.b .nil pass0 (pa_cons (pv 0) (pa_cons pe_int pa_nil))))
    (pss_cons (ps_for PassesOwn.never rfl (pi_list (pe_lst (pa_cons (pe_call G_law_book (hr.mono (by omega)) rfl R_law_book.m R_law_book.k R_law_book.b .nil pass0 (pa_cons (pv 0) (pa_cons pe_int pa_nil))) (pa_cons (pe_call G_law_told_book (hr.mono (by omega)) rfl R_law_told_book.m R_law_told_book.k R_law_told_book.b .nil pass0 (pa_cons (pe_call G_law_words (hr.mono (by omega)) rfl R_law_words.m R_law_words.k R_law_words.b .nil pass0 (pa_cons (pv 1) (pa_cons pe_int pa_nil))) pa_nil)) pa_nil)))) (pg_name (i := 2) sclaw.nd rfl (Or.inl rfl)) (pss_one (ps_if (pt_not (pt_val (pe_callR (callG G_law_right gd hr R_law_right.b pass0) rfl R_law_right.m R_law_right.k (pa_cons (pv 2) pa_nil)))) (pss_one (ps_ret pe_bl)) pss_nil)))
    (pss_one (ps_ret pe_bl)))), ?_⟩
  refine ⟨_, rfl, sc, ns, 7, rfl, hS, by decide, by decide, fun tp z0 htp => ?_⟩
  have s1 := same_new htp (.lst [.int z0])
  have ht1 : Tp (upd H tp (.lst [.int z0])) tp := ⟨z0, upd_same⟩
  generalize upd H tp (.lst [.int z0]) = H1 at s1 ht1 ⊢
  refine ⟨_, rfl, sc, ns, 0, rfl, s1.seq hS, by decide, by decide, fun p es us H2 s2 hB hG => ?_⟩
  obtain ⟨hF, hGe, _⟩ := hG.er
  have ht2 : Tp H2 tp := let ⟨z, h⟩ := ht1; ⟨z, s2 _ _ h⟩
  refine ⟨_, rfl, tp, 4, rfl, ht2, by decide, by decide, fun wl xs H3 b3 ht3 hwl hw hln hnd => ?_⟩
  have hB3 := hB.tk (But1.tk ht2 b3)
  have hl4 : xs.length = 4 := by omega
  match xs, hl4, hw, hnd with
  | [f0, g0, x0, y0], _, hw, hnd => ?_
  obtain ⟨hw1, hw2⟩ := hw
  have wd : ∀ z ∈ [f0, g0, x0, y0], isW z = true := hw2
  obtain ⟨gT, gB⟩ := told_gd (wd f0 (by simp)) (wd g0 (by simp)) (wd x0 (by simp)) (wd y0 (by simp)) hnd
  refine ⟨wl, f0, g0, x0, y0, rfl, hw1, fun p2 us2 H4 s4 hB2 => ?_⟩
  refine ⟨sz (by show 2 ≤ 100000; decide), fun bl hbl => ?_⟩
  have s5 := same_new hbl (.lst [V.ref p, .ref p2])
  have h5 : upd H4 bl (.lst [V.ref p, .ref p2]) bl = some (.lst [V.ref p, .ref p2]) := upd_same
  have hB5 := hB3.tk (tk_same (s4.trans s5))
  have hB25 := hB2.tk (tk_same s5)
  generalize upd H4 bl (.lst [V.ref p, .ref p2]) = H5 at h5 hB5 hB25 ⊢
  refine ⟨bl, rfl, ⟨_, SqL.of h5⟩, for_list (K := K) (a := bl) (xs := [V.ref p, .ref p2]) (fun i σ H' => ∃ o2, σ = [some (.ref sc), some (.ref tp), o2] ∧ Same H5 H') ⟨_, rfl, Same.refl _⟩ ?_ ?_ ?_⟩
  · rintro i σ H' _ ⟨_, rfl, s6⟩
    exact SqL.of (s6 _ _ h5)
  · rintro i x σ H6 hx ⟨o2, rfl, s6⟩
    have one : ∃ (p' : Addr) (es' : List Er) (us' : List V), x = .ref p' ∧ BkAt H6 es' us' p' ∧ es'.length ≤ 6 ∧ ∃ hF, ∀ e ∈ es', GdE hF e := by
      match i, hx with
      | 0, hx => exact ⟨p, es, us, (Option.some.inj hx).symm, hB5.tk (tk_same s6), hG.len.2, hF, hGe⟩
      | 1, hx => exact ⟨p2, _, us2, (Option.some.inj hx).symm, hB25.tk (tk_same s6), gB.len.2, _, gT⟩
      | n + 2, hx => cases hx
    obtain ⟨p', es', us', rfl, hB', hl', hF'⟩ := one
    exact ⟨_, rfl, p', es', us', rfl, hB', hl', hF', fun H7 s7 => ⟨true, rfl, itF rfl ⟨_, rfl, s6.trans s7⟩⟩⟩
  rintro σ H6 ⟨o2, rfl, s6⟩
  exact q _
end
end KB

namespace KB
open PySem L2
theorem all_mk {l : PySem.W.OpenLaw} {w : World} {K : PySem.W.Frag} {h : Heap} {mg : Str → Option Value} {fa : Addr} (X : K.In h) (G : h.Ns mainGlobals mg) (hfa : mg "law" = some (.ref fa))
    {f1 f2 f3 f4 f5 f6 f7 f8 f9 f10 f11 f12 f13 f14 f15 f16 f17 f18 f19 f20 f21 f22 f23 f24 f25 f26 f27 f28 f29 f30 f31 f32 f33 f34 f35 f36 f37 f38 f39 f40 f41 f42 f43 f44 m1 m2 m3 m4 m5 m6 m7 m8 m9 CW CT : Addr}
    {od1 an1 od2 an2 od3 an3 od4 an4 od5 an5 od6 an6 od7 an7 od8 an8 od9 an9 od10 an10 od11 an11 od12 an12 od13 an13 od14 an14 od15 an15 od16 an16 od17 an17 od18 an18 od19 an19 od20 an20 od21 an21 od22 an22 od23 an23 od24 an24 od25 an25 od26 an26 od27 an27 od28 an28 od29 an29 od30 an30 od31 an31 od32 an32 od33 an33 od34 an34 od35 an35 od36 an36 od37 an37 od38 an38 od39 an39 od40 an40 od41 an41 od42 an42 od43 an43 od44 an44 mod1 man1 mod2 man2 mod3 man3 mod4 man4 mod5 man5 mod6 man6 mod7 man7 mod8 man8 mod9 man9 : Option Addr}
    {sl1 sl2 sl3 sl4 sl5 sl6 sl7 sl8 sl9 sl10 sl11 sl12 sl13 sl14 sl15 sl16 sl17 sl18 sl19 sl20 sl21 sl22 sl23 sl24 sl25 sl26 sl27 sl28 sl29 sl30 sl31 sl32 sl33 sl34 sl35 sl36 sl37 sl38 sl39 sl40 sl41 sl42 sl43 sl44 msl1 msl2 msl3 msl4 msl5 msl6 msl7 msl8 msl9 : Array (Option Value)}
    {oc1 kV1 dc1 pm1 cd1 ct1 oc2 kV2 dc2 pm2 cd2 ct2 oc3 kV3 dc3 pm3 cd3 ct3 oc4 kV4 dc4 pm4 cd4 ct4 oc5 kV5 dc5 pm5 cd5 ct5 oc6 kV6 dc6 pm6 cd6 ct6 oc7 kV7 dc7 pm7 cd7 ct7 oc8 kV8 dc8 pm8 cd8 ct8 oc9 kV9 dc9 pm9 cd9 ct9 oc10 kV10 dc10 pm10 cd10 ct10 oc11 kV11 dc11 pm11 cd11 ct11 oc12 kV12 dc12 pm12 cd12 ct12 oc13 kV13 dc13 pm13 cd13 ct13 oc14 kV14 dc14 pm14 cd14 ct14 oc15 kV15 dc15 pm15 cd15 ct15 oc16 kV16 dc16 pm16 cd16 ct16 oc17 kV17 dc17 pm17 cd17 ct17 oc18 kV18 dc18 pm18 cd18 ct18 oc19 kV19 dc19 pm19 cd19 ct19 oc20 kV20 dc20 pm20 cd20 ct20 oc21 kV21 dc21 pm21 cd21 ct21 oc22 kV22 dc22 pm22 cd22 ct22 oc23 kV23 dc23 pm23 cd23 ct23 oc24 kV24 dc24 pm24 cd24 ct24 oc25 kV25 dc25 pm25 cd25 ct25 oc26 kV26 dc26 pm26 cd26 ct26 oc27 kV27 dc27 pm27 cd27 ct27 oc28 kV28 dc28 pm28 cd28 ct28 oc29 kV29 dc29 pm29 cd29 ct29 oc30 kV30 dc30 pm30 cd30 ct30 oc31 kV31 dc31 pm31 cd31 ct31 oc32 kV32 dc32 pm32 cd32 ct32 oc33 kV33 dc33 pm33 cd33 ct33 oc34 kV34 dc34 pm34 cd34 ct34 oc35 kV35 dc35 pm35 cd35 ct35 oc36 kV36 dc36 pm36 cd36 ct36 oc37 kV37 dc37 pm37 cd37 ct37 oc38 kV38 dc38 pm38 cd38 ct38 oc39 kV39 dc39 pm39 cd39 ct39 oc40 kV40 dc40 pm40 cd40 ct40 oc41 kV41 dc41 pm41 cd41 ct41 oc42 kV42 dc42 pm42 cd42 ct42 oc43 kV43 dc43 pm43 cd43 ct43 oc44 kV44 dc44 pm44 cd44 ct44 moc1 mkV1 mdc1 mpm1 mcd1 mct1 moc2 mkV2 mdc2 mpm2 mcd2 mct2 moc3 mkV3 mdc3 mpm3 mcd3 mct3 moc4 mkV4 mdc4 mpm4 mcd4 mct4 moc5 mkV5 mdc5 mpm5 mcd5 mct5 moc6 mkV6 mdc6 mpm6 mcd6 mct6 moc7 mkV7 mdc7 mpm7 mcd7 mct7 moc8 mkV8 mdc8 mpm8 mcd8 mct8 moc9 mkV9 mdc9 mpm9 mcd9 mct9 : Value}
    (a1 : PySem.W.nsIn K mainGlobals "met" = some (some (.ref f1)))
    (l1 : K.lookup f1 = some ⟨oc1, od1, .func (PySem.W.fnOf "met" "met" (defArgs smet) (defBody smet) (defScope smet) .none kV1 dc1 pm1 an1 cd1 ct1), sl1⟩)
    (c1 : PySem.W.codeIn K cd1 "met" = true)
    (k1 : PySem.W.keepIn K (.ref f1) = true)
    (a2 : PySem.W.nsIn K mainGlobals "last_taken" = some (some (.ref f2)))
    (l2 : K.lookup f2 = some ⟨oc2, od2, .func (PySem.W.fnOf "last_taken" "last_taken" (defArgs slast_taken) (defBody slast_taken) (defScope slast_taken) .none kV2 dc2 pm2 an2 cd2 ct2), sl2⟩)
    (c2 : PySem.W.codeIn K cd2 "last_taken" = true)
    (k2 : PySem.W.keepIn K (.ref f2) = true)
    (a3 : PySem.W.nsIn K mainGlobals "parts_of" = some (some (.ref f3)))
    (l3 : K.lookup f3 = some ⟨oc3, od3, .func (PySem.W.fnOf "parts_of" "parts_of" (defArgs sparts_of) (defBody sparts_of) (defScope sparts_of) .none kV3 dc3 pm3 an3 cd3 ct3), sl3⟩)
    (c3 : PySem.W.codeIn K cd3 "parts_of" = true)
    (k3 : PySem.W.keepIn K (.ref f3) = true)
    (a4 : PySem.W.nsIn K mainGlobals "words_in" = some (some (.ref f4)))
    (l4 : K.lookup f4 = some ⟨oc4, od4, .func (PySem.W.fnOf "words_in" "words_in" (defArgs swords_in) (defBody swords_in) (defScope swords_in) .none kV4 dc4 pm4 an4 cd4 ct4), sl4⟩)
    (c4 : PySem.W.codeIn K cd4 "words_in" = true)
    (k4 : PySem.W.keepIn K (.ref f4) = true)
    (a5 : PySem.W.nsIn K mainGlobals "word_of" = some (some (.ref f5)))
    (l5 : K.lookup f5 = some ⟨oc5, od5, .func (PySem.W.fnOf "word_of" "word_of" (defArgs sword_of) (defBody sword_of) (defScope sword_of) .none kV5 dc5 pm5 an5 cd5 ct5), sl5⟩)
    (c5 : PySem.W.codeIn K cd5 "word_of" = true)
    (k5 : PySem.W.keepIn K (.ref f5) = true)
    (a6 : PySem.W.nsIn K mainGlobals "turn_book" = some (some (.ref f6)))
    (l6 : K.lookup f6 = some ⟨oc6, od6, .func (PySem.W.fnOf "turn_book" "turn_book" (defArgs sturn_book) (defBody sturn_book) (defScope sturn_book) .none kV6 dc6 pm6 an6 cd6 ct6), sl6⟩)
    (c6 : PySem.W.codeIn K cd6 "turn_book" = true)
    (k6 : PySem.W.keepIn K (.ref f6) = true)
    (a7 : PySem.W.nsIn K mainGlobals "turned_body" = some (some (.ref f7)))
    (l7 : K.lookup f7 = some ⟨oc7, od7, .func (PySem.W.fnOf "turned_body" "turned_body" (defArgs sturned_body) (defBody sturned_body) (defScope sturned_body) .none kV7 dc7 pm7 an7 cd7 ct7), sl7⟩)
    (c7 : PySem.W.codeIn K cd7 "turned_body" = true)
    (k7 : PySem.W.keepIn K (.ref f7) = true)
    (a8 : PySem.W.nsIn K mainGlobals "jobs_to_end" = some (some (.ref f8)))
    (l8 : K.lookup f8 = some ⟨oc8, od8, .func (PySem.W.fnOf "jobs_to_end" "jobs_to_end" (defArgs sjobs_to_end) (defBody sjobs_to_end) (defScope sjobs_to_end) .none kV8 dc8 pm8 an8 cd8 ct8), sl8⟩)
    (c8 : PySem.W.codeIn K cd8 "jobs_to_end" = true)
    (k8 : PySem.W.keepIn K (.ref f8) = true)
    (a9 : PySem.W.nsIn K mainGlobals "put_ahead" = some (some (.ref f9)))
    (l9 : K.lookup f9 = some ⟨oc9, od9, .func (PySem.W.fnOf "put_ahead" "put_ahead" (defArgs sput_ahead) (defBody sput_ahead) (defScope sput_ahead) .none kV9 dc9 pm9 an9 cd9 ct9), sl9⟩)
    (c9 : PySem.W.codeIn K cd9 "put_ahead" = true)
    (k9 : PySem.W.keepIn K (.ref f9) = true)
    (a10 : PySem.W.nsIn K mainGlobals "_law_cell_at" = some (some (.ref f10)))
    (l10 : K.lookup f10 = some ⟨oc10, od10, .func (PySem.W.fnOf "_law_cell_at" "_law_cell_at" (defArgs s_law_cell_at) (defBody s_law_cell_at) (defScope s_law_cell_at) .none kV10 dc10 pm10 an10 cd10 ct10), sl10⟩)
    (c10 : PySem.W.codeIn K cd10 "_law_cell_at" = true)
    (k10 : PySem.W.keepIn K (.ref f10) = true)
    (a11 : PySem.W.nsIn K mainGlobals "_law_tape" = some (some (.ref f11)))
    (l11 : K.lookup f11 = some ⟨oc11, od11, .func (PySem.W.fnOf "_law_tape" "_law_tape" (defArgs s_law_tape) (defBody s_law_tape) (defScope s_law_tape) .none kV11 dc11 pm11 an11 cd11 ct11), sl11⟩)
    (c11 : PySem.W.codeIn K cd11 "_law_tape" = true)
    (k11 : PySem.W.keepIn K (.ref f11) = true)
    (a12 : PySem.W.nsIn K mainGlobals "_law_digit" = some (some (.ref f12)))
    (l12 : K.lookup f12 = some ⟨oc12, od12, .func (PySem.W.fnOf "_law_digit" "_law_digit" (defArgs s_law_digit) (defBody s_law_digit) (defScope s_law_digit) .none kV12 dc12 pm12 an12 cd12 ct12), sl12⟩)
    (c12 : PySem.W.codeIn K cd12 "_law_digit" = true)
    (k12 : PySem.W.keepIn K (.ref f12) = true)
    (a13 : PySem.W.nsIn K mainGlobals "_law_words" = some (some (.ref f13)))
    (l13 : K.lookup f13 = some ⟨oc13, od13, .func (PySem.W.fnOf "_law_words" "_law_words" (defArgs s_law_words) (defBody s_law_words) (defScope s_law_words) .none kV13 dc13 pm13 an13 cd13 ct13), sl13⟩)
    (c13 : PySem.W.codeIn K cd13 "_law_words" = true)
    (k13 : PySem.W.keepIn K (.ref f13) = true)
    (a14 : PySem.W.nsIn K mainGlobals "_law_number" = some (some (.ref f14)))
    (l14 : K.lookup f14 = some ⟨oc14, od14, .func (PySem.W.fnOf "_law_number" "_law_number" (defArgs s_law_number) (defBody s_law_number) (defScope s_law_number) .none kV14 dc14 pm14 an14 cd14 ct14), sl14⟩)
    (c14 : PySem.W.codeIn K cd14 "_law_number" = true)
    (k14 : PySem.W.keepIn K (.ref f14) = true)
    (a15 : PySem.W.nsIn K mainGlobals "_law_leaf" = some (some (.ref f15)))
    (l15 : K.lookup f15 = some ⟨oc15, od15, .func (PySem.W.fnOf "_law_leaf" "_law_leaf" (defArgs s_law_leaf) (defBody s_law_leaf) (defScope s_law_leaf) .none kV15 dc15 pm15 an15 cd15 ct15), sl15⟩)
    (c15 : PySem.W.codeIn K cd15 "_law_leaf" = true)
    (k15 : PySem.W.keepIn K (.ref f15) = true)
    (a16 : PySem.W.nsIn K mainGlobals "_law_shares" = some (some (.ref f16)))
    (l16 : K.lookup f16 = some ⟨oc16, od16, .func (PySem.W.fnOf "_law_shares" "_law_shares" (defArgs s_law_shares) (defBody s_law_shares) (defScope s_law_shares) .none kV16 dc16 pm16 an16 cd16 ct16), sl16⟩)
    (c16 : PySem.W.codeIn K cd16 "_law_shares" = true)
    (k16 : PySem.W.keepIn K (.ref f16) = true)
    (a17 : PySem.W.nsIn K mainGlobals "_law_less_one" = some (some (.ref f17)))
    (l17 : K.lookup f17 = some ⟨oc17, od17, .func (PySem.W.fnOf "_law_less_one" "_law_less_one" (defArgs s_law_less_one) (defBody s_law_less_one) (defScope s_law_less_one) .none kV17 dc17 pm17 an17 cd17 ct17), sl17⟩)
    (c17 : PySem.W.codeIn K cd17 "_law_less_one" = true)
    (k17 : PySem.W.keepIn K (.ref f17) = true)
    (a18 : PySem.W.nsIn K mainGlobals "_law_ask" = some (some (.ref f18)))
    (l18 : K.lookup f18 = some ⟨oc18, od18, .func (PySem.W.fnOf "_law_ask" "_law_ask" (defArgs s_law_ask) (defBody s_law_ask) (defScope s_law_ask) .none kV18 dc18 pm18 an18 cd18 ct18), sl18⟩)
    (c18 : PySem.W.codeIn K cd18 "_law_ask" = true)
    (k18 : PySem.W.keepIn K (.ref f18) = true)
    (a19 : PySem.W.nsIn K mainGlobals "_law_term" = some (some (.ref f19)))
    (l19 : K.lookup f19 = some ⟨oc19, od19, .func (PySem.W.fnOf "_law_term" "_law_term" (defArgs s_law_term) (defBody s_law_term) (defScope s_law_term) .none kV19 dc19 pm19 an19 cd19 ct19), sl19⟩)
    (c19 : PySem.W.codeIn K cd19 "_law_term" = true)
    (k19 : PySem.W.keepIn K (.ref f19) = true)
    (a20 : PySem.W.nsIn K mainGlobals "_law_body" = some (some (.ref f20)))
    (l20 : K.lookup f20 = some ⟨oc20, od20, .func (PySem.W.fnOf "_law_body" "_law_body" (defArgs s_law_body) (defBody s_law_body) (defScope s_law_body) .none kV20 dc20 pm20 an20 cd20 ct20), sl20⟩)
    (c20 : PySem.W.codeIn K cd20 "_law_body" = true)
    (k20 : PySem.W.keepIn K (.ref f20) = true)
    (a21 : PySem.W.nsIn K mainGlobals "_law_book" = some (some (.ref f21)))
    (l21 : K.lookup f21 = some ⟨oc21, od21, .func (PySem.W.fnOf "_law_book" "_law_book" (defArgs s_law_book) (defBody s_law_book) (defScope s_law_book) .none kV21 dc21 pm21 an21 cd21 ct21), sl21⟩)
    (c21 : PySem.W.codeIn K cd21 "_law_book" = true)
    (k21 : PySem.W.keepIn K (.ref f21) = true)
    (a22 : PySem.W.nsIn K mainGlobals "_law_parts" = some (some (.ref f22)))
    (l22 : K.lookup f22 = some ⟨oc22, od22, .func (PySem.W.fnOf "_law_parts" "_law_parts" (defArgs N.s_law_parts) (defBody N.s_law_parts) (defScope N.s_law_parts) .none kV22 dc22 pm22 an22 cd22 ct22), sl22⟩)
    (c22 : PySem.W.codeIn K cd22 "_law_parts" = true)
    (k22 : PySem.W.keepIn K (.ref f22) = true)
    (a23 : PySem.W.nsIn K mainGlobals "_law_inner" = some (some (.ref f23)))
    (l23 : K.lookup f23 = some ⟨oc23, od23, .func (PySem.W.fnOf "_law_inner" "_law_inner" (defArgs N.s_law_inner) (defBody N.s_law_inner) (defScope N.s_law_inner) .none kV23 dc23 pm23 an23 cd23 ct23), sl23⟩)
    (c23 : PySem.W.codeIn K cd23 "_law_inner" = true)
    (k23 : PySem.W.keepIn K (.ref f23) = true)
    (a24 : PySem.W.nsIn K mainGlobals "_law_simples" = some (some (.ref f24)))
    (l24 : K.lookup f24 = some ⟨oc24, od24, .func (PySem.W.fnOf "_law_simples" "_law_simples" (defArgs N.s_law_simples) (defBody N.s_law_simples) (defScope N.s_law_simples) .none kV24 dc24 pm24 an24 cd24 ct24), sl24⟩)
    (c24 : PySem.W.codeIn K cd24 "_law_simples" = true)
    (k24 : PySem.W.keepIn K (.ref f24) = true)
    (a25 : PySem.W.nsIn K mainGlobals "_law_twords" = some (some (.ref f25)))
    (l25 : K.lookup f25 = some ⟨oc25, od25, .func (PySem.W.fnOf "_law_twords" "_law_twords" (defArgs N.s_law_twords) (defBody N.s_law_twords) (defScope N.s_law_twords) .none kV25 dc25 pm25 an25 cd25 ct25), sl25⟩)
    (c25 : PySem.W.codeIn K cd25 "_law_twords" = true)
    (k25 : PySem.W.keepIn K (.ref f25) = true)
    (a26 : PySem.W.nsIn K mainGlobals "_law_tposts" = some (some (.ref f26)))
    (l26 : K.lookup f26 = some ⟨oc26, od26, .func (PySem.W.fnOf "_law_tposts" "_law_tposts" (defArgs N.s_law_tposts) (defBody N.s_law_tposts) (defScope N.s_law_tposts) .none kV26 dc26 pm26 an26 cd26 ct26), sl26⟩)
    (c26 : PySem.W.codeIn K cd26 "_law_tposts" = true)
    (k26 : PySem.W.keepIn K (.ref f26) = true)
    (a27 : PySem.W.nsIn K mainGlobals "_law_called" = some (some (.ref f27)))
    (l27 : K.lookup f27 = some ⟨oc27, od27, .func (PySem.W.fnOf "_law_called" "_law_called" (defArgs N.s_law_called) (defBody N.s_law_called) (defScope N.s_law_called) .none kV27 dc27 pm27 an27 cd27 ct27), sl27⟩)
    (c27 : PySem.W.codeIn K cd27 "_law_called" = true)
    (k27 : PySem.W.keepIn K (.ref f27) = true)
    (a28 : PySem.W.nsIn K mainGlobals "_law_tcalled" = some (some (.ref f28)))
    (l28 : K.lookup f28 = some ⟨oc28, od28, .func (PySem.W.fnOf "_law_tcalled" "_law_tcalled" (defArgs N.s_law_tcalled) (defBody N.s_law_tcalled) (defScope N.s_law_tcalled) .none kV28 dc28 pm28 an28 cd28 ct28), sl28⟩)
    (c28 : PySem.W.codeIn K cd28 "_law_tcalled" = true)
    (k28 : PySem.W.keepIn K (.ref f28) = true)
    (a29 : PySem.W.nsIn K mainGlobals "_law_by_numbers" = some (some (.ref f29)))
    (l29 : K.lookup f29 = some ⟨oc29, od29, .func (PySem.W.fnOf "_law_by_numbers" "_law_by_numbers" (defArgs N.s_law_by_numbers) (defBody N.s_law_by_numbers) (defScope N.s_law_by_numbers) .none kV29 dc29 pm29 an29 cd29 ct29), sl29⟩)
    (c29 : PySem.W.codeIn K cd29 "_law_by_numbers" = true)
    (k29 : PySem.W.keepIn K (.ref f29) = true)
    (a30 : PySem.W.nsIn K mainGlobals "_law_anew" = some (some (.ref f30)))
    (l30 : K.lookup f30 = some ⟨oc30, od30, .func (PySem.W.fnOf "_law_anew" "_law_anew" (defArgs N.s_law_anew) (defBody N.s_law_anew) (defScope N.s_law_anew) .none kV30 dc30 pm30 an30 cd30 ct30), sl30⟩)
    (c30 : PySem.W.codeIn K cd30 "_law_anew" = true)
    (k30 : PySem.W.keepIn K (.ref f30) = true)
    (a31 : PySem.W.nsIn K mainGlobals "_law_is_simple_term" = some (some (.ref f31)))
    (l31 : K.lookup f31 = some ⟨oc31, od31, .func (PySem.W.fnOf "_law_is_simple_term" "_law_is_simple_term" (defArgs s_law_is_simple_term) (defBody s_law_is_simple_term) (defScope s_law_is_simple_term) .none kV31 dc31 pm31 an31 cd31 ct31), sl31⟩)
    (c31 : PySem.W.codeIn K cd31 "_law_is_simple_term" = true)
    (k31 : PySem.W.keepIn K (.ref f31) = true)
    (a32 : PySem.W.nsIn K mainGlobals "_law_done_to" = some (some (.ref f32)))
    (l32 : K.lookup f32 = some ⟨oc32, od32, .func (PySem.W.fnOf "_law_done_to" "_law_done_to" (defArgs s_law_done_to) (defBody s_law_done_to) (defScope s_law_done_to) .none kV32 dc32 pm32 an32 cd32 ct32), sl32⟩)
    (c32 : PySem.W.codeIn K cd32 "_law_done_to" = true)
    (k32 : PySem.W.keepIn K (.ref f32) = true)
    (a33 : PySem.W.nsIn K mainGlobals "_law_under" = some (some (.ref f33)))
    (l33 : K.lookup f33 = some ⟨oc33, od33, .func (PySem.W.fnOf "_law_under" "_law_under" (defArgs s_law_under) (defBody s_law_under) (defScope s_law_under) .none kV33 dc33 pm33 an33 cd33 ct33), sl33⟩)
    (c33 : PySem.W.codeIn K cd33 "_law_under" = true)
    (k33 : PySem.W.keepIn K (.ref f33) = true)
    (a34 : PySem.W.nsIn K mainGlobals "_law_made_simple" = some (some (.ref f34)))
    (l34 : K.lookup f34 = some ⟨oc34, od34, .func (PySem.W.fnOf "_law_made_simple" "_law_made_simple" (defArgs s_law_made_simple) (defBody s_law_made_simple) (defScope s_law_made_simple) .none kV34 dc34 pm34 an34 cd34 ct34), sl34⟩)
    (c34 : PySem.W.codeIn K cd34 "_law_made_simple" = true)
    (k34 : PySem.W.keepIn K (.ref f34) = true)
    (a35 : PySem.W.nsIn K mainGlobals "_law_new" = some (some (.ref f35)))
    (l35 : K.lookup f35 = some ⟨oc35, od35, .func (PySem.W.fnOf "_law_new" "_law_new" (defArgs s_law_new) (defBody s_law_new) (defScope s_law_new) .none kV35 dc35 pm35 an35 cd35 ct35), sl35⟩)
    (c35 : PySem.W.codeIn K cd35 "_law_new" = true)
    (k35 : PySem.W.keepIn K (.ref f35) = true)
    (a36 : PySem.W.nsIn K mainGlobals "_law_behind_lead" = some (some (.ref f36)))
    (l36 : K.lookup f36 = some ⟨oc36, od36, .func (PySem.W.fnOf "_law_behind_lead" "_law_behind_lead" (defArgs s_law_behind_lead) (defBody s_law_behind_lead) (defScope s_law_behind_lead) .none kV36 dc36 pm36 an36 cd36 ct36), sl36⟩)
    (c36 : PySem.W.codeIn K cd36 "_law_behind_lead" = true)
    (k36 : PySem.W.keepIn K (.ref f36) = true)
    (a37 : PySem.W.nsIn K mainGlobals "_law_turned" = some (some (.ref f37)))
    (l37 : K.lookup f37 = some ⟨oc37, od37, .func (PySem.W.fnOf "_law_turned" "_law_turned" (defArgs s_law_turned) (defBody s_law_turned) (defScope s_law_turned) .none kV37 dc37 pm37 an37 cd37 ct37), sl37⟩)
    (c37 : PySem.W.codeIn K cd37 "_law_turned" = true)
    (k37 : PySem.W.keepIn K (.ref f37) = true)
    (a38 : PySem.W.nsIn K mainGlobals "_law_is_word" = some (some (.ref f38)))
    (l38 : K.lookup f38 = some ⟨oc38, od38, .func (PySem.W.fnOf "_law_is_word" "_law_is_word" (defArgs s_law_is_word) (defBody s_law_is_word) (defScope s_law_is_word) .none kV38 dc38 pm38 an38 cd38 ct38), sl38⟩)
    (c38 : PySem.W.codeIn K cd38 "_law_is_word" = true)
    (k38 : PySem.W.keepIn K (.ref f38) = true)
    (a39 : PySem.W.nsIn K mainGlobals "_law_stands" = some (some (.ref f39)))
    (l39 : K.lookup f39 = some ⟨oc39, od39, .func (PySem.W.fnOf "_law_stands" "_law_stands" (defArgs s_law_stands) (defBody s_law_stands) (defScope s_law_stands) .none kV39 dc39 pm39 an39 cd39 ct39), sl39⟩)
    (c39 : PySem.W.codeIn K cd39 "_law_stands" = true)
    (k39 : PySem.W.keepIn K (.ref f39) = true)
    (a40 : PySem.W.nsIn K mainGlobals "_law_terms" = some (some (.ref f40)))
    (l40 : K.lookup f40 = some ⟨oc40, od40, .func (PySem.W.fnOf "_law_terms" "_law_terms" (defArgs s_law_terms) (defBody s_law_terms) (defScope s_law_terms) .none kV40 dc40 pm40 an40 cd40 ct40), sl40⟩)
    (c40 : PySem.W.codeIn K cd40 "_law_terms" = true)
    (k40 : PySem.W.keepIn K (.ref f40) = true)
    (a41 : PySem.W.nsIn K mainGlobals "_law_words_good" = some (some (.ref f41)))
    (l41 : K.lookup f41 = some ⟨oc41, od41, .func (PySem.W.fnOf "_law_words_good" "_law_words_good" (defArgs s_law_words_good) (defBody s_law_words_good) (defScope s_law_words_good) .none kV41 dc41 pm41 an41 cd41 ct41), sl41⟩)
    (c41 : PySem.W.codeIn K cd41 "_law_words_good" = true)
    (k41 : PySem.W.keepIn K (.ref f41) = true)
    (a42 : PySem.W.nsIn K mainGlobals "_law_told_book" = some (some (.ref f42)))
    (l42 : K.lookup f42 = some ⟨oc42, od42, .func (PySem.W.fnOf "_law_told_book" "_law_told_book" (defArgs s_law_told_book) (defBody s_law_told_book) (defScope s_law_told_book) .none kV42 dc42 pm42 an42 cd42 ct42), sl42⟩)
    (c42 : PySem.W.codeIn K cd42 "_law_told_book" = true)
    (k42 : PySem.W.keepIn K (.ref f42) = true)
    (a43 : PySem.W.nsIn K mainGlobals "_law_right" = some (some (.ref f43)))
    (l43 : K.lookup f43 = some ⟨oc43, od43, .func (PySem.W.fnOf "_law_right" "_law_right" (defArgs s_law_right) (defBody s_law_right) (defScope s_law_right) .none kV43 dc43 pm43 an43 cd43 ct43), sl43⟩)
    (c43 : PySem.W.codeIn K cd43 "_law_right" = true)
    (k43 : PySem.W.keepIn K (.ref f43) = true)
    (a44 : PySem.W.nsIn K mainGlobals "law" = some (some (.ref f44)))
    (l44 : K.lookup f44 = some ⟨oc44, od44, .func (PySem.W.fnOf "law" "law" (defArgs slaw) (defBody slaw) (defScope slaw) .none kV44 dc44 pm44 an44 cd44 ct44), sl44⟩)
    (c44 : PySem.W.codeIn K cd44 "law" = true)
    (k44 : PySem.W.keepIn K (.ref f44) = true)
    (gCW : PySem.W.nsIn K mainGlobals "NewWords" = some (some (.ref CW)))
    (gCT : PySem.W.nsIn K mainGlobals "Turning" = some (some (.ref CT)))
    (ma1 : PySem.W.findIn K (.ref CW) "__init__" = some (some (.ref m1)))
    (mi1 : PySem.W.isFn K (.ref m1) = true)
    (ml1 : K.lookup m1 = some ⟨moc1, mod1, .func (PySem.W.fnOf "__init__" "NewWords.__init__" (defArgs sNew0) (defBody sNew0) (defScope sNew0) .none mkV1 mdc1 mpm1 man1 mcd1 mct1), msl1⟩)
    (mc1 : PySem.W.codeIn K mcd1 "NewWords.__init__" = true)
    (mk1 : PySem.W.keepIn K (.ref m1) = true)
    (ma2 : PySem.W.findIn K (.ref CW) "one_more" = some (some (.ref m2)))
    (mi2 : PySem.W.isFn K (.ref m2) = true)
    (ml2 : K.lookup m2 = some ⟨moc2, mod2, .func (PySem.W.fnOf "one_more" "NewWords.one_more" (defArgs sMore) (defBody sMore) (defScope sMore) .none mkV2 mdc2 mpm2 man2 mcd2 mct2), msl2⟩)
    (mc2 : PySem.W.codeIn K mcd2 "NewWords.one_more" = true)
    (mk2 : PySem.W.keepIn K (.ref m2) = true)
    (ma3 : PySem.W.findIn K (.ref CT) "__init__" = some (some (.ref m3)))
    (mi3 : PySem.W.isFn K (.ref m3) = true)
    (ml3 : K.lookup m3 = some ⟨moc3, mod3, .func (PySem.W.fnOf "__init__" "Turning.__init__" (defArgs sT0) (defBody sT0) (defScope sT0) .none mkV3 mdc3 mpm3 man3 mcd3 mct3), msl3⟩)
    (mc3 : PySem.W.codeIn K mcd3 "Turning.__init__" = true)
    (mk3 : PySem.W.keepIn K (.ref m3) = true)
    (ma4 : PySem.W.findIn K (.ref CT) "go" = some (some (.ref m4)))
    (mi4 : PySem.W.isFn K (.ref m4) = true)
    (ml4 : K.lookup m4 = some ⟨moc4, mod4, .func (PySem.W.fnOf "go" "Turning.go" (defArgs sGo) (defBody sGo) (defScope sGo) .none mkV4 mdc4 mpm4 man4 mcd4 mct4), msl4⟩)
    (mc4 : PySem.W.codeIn K mcd4 "Turning.go" = true)
    (mk4 : PySem.W.keepIn K (.ref m4) = true)
    (ma5 : PySem.W.findIn K (.ref CT) "jobs_of" = some (some (.ref m5)))
    (mi5 : PySem.W.isFn K (.ref m5) = true)
    (ml5 : K.lookup m5 = some ⟨moc5, mod5, .func (PySem.W.fnOf "jobs_of" "Turning.jobs_of" (defArgs sJof) (defBody sJof) (defScope sJof) .none mkV5 mdc5 mpm5 man5 mcd5 mct5), msl5⟩)
    (mc5 : PySem.W.codeIn K mcd5 "Turning.jobs_of" = true)
    (mk5 : PySem.W.keepIn K (.ref m5) = true)
    (ma6 : PySem.W.findIn K (.ref CT) "jobs_done" = some (some (.ref m6)))
    (mi6 : PySem.W.isFn K (.ref m6) = true)
    (ml6 : K.lookup m6 = some ⟨moc6, mod6, .func (PySem.W.fnOf "jobs_done" "Turning.jobs_done" (defArgs sJdone) (defBody sJdone) (defScope sJdone) .none mkV6 mdc6 mpm6 man6 mcd6 mct6), msl6⟩)
    (mc6 : PySem.W.codeIn K mcd6 "Turning.jobs_done" = true)
    (mk6 : PySem.W.keepIn K (.ref m6) = true)
    (ma7 : PySem.W.findIn K (.ref CT) "jobs_put" = some (some (.ref m7)))
    (mi7 : PySem.W.isFn K (.ref m7) = true)
    (ml7 : K.lookup m7 = some ⟨moc7, mod7, .func (PySem.W.fnOf "jobs_put" "Turning.jobs_put" (defArgs sJput) (defBody sJput) (defScope sJput) .none mkV7 mdc7 mpm7 man7 mcd7 mct7), msl7⟩)
    (mc7 : PySem.W.codeIn K mcd7 "Turning.jobs_put" = true)
    (mk7 : PySem.W.keepIn K (.ref m7) = true)
    (ma8 : PySem.W.findIn K (.ref CT) "jobs_simple" = some (some (.ref m8)))
    (mi8 : PySem.W.isFn K (.ref m8) = true)
    (ml8 : K.lookup m8 = some ⟨moc8, mod8, .func (PySem.W.fnOf "jobs_simple" "Turning.jobs_simple" (defArgs sJsimp) (defBody sJsimp) (defScope sJsimp) .none mkV8 mdc8 mpm8 man8 mcd8 mct8), msl8⟩)
    (mc8 : PySem.W.codeIn K mcd8 "Turning.jobs_simple" = true)
    (mk8 : PySem.W.keepIn K (.ref m8) = true)
    (ma9 : PySem.W.findIn K (.ref CT) "finish" = some (some (.ref m9)))
    (mi9 : PySem.W.isFn K (.ref m9) = true)
    (ml9 : K.lookup m9 = some ⟨moc9, mod9, .func (PySem.W.fnOf "finish" "Turning.finish" (defArgs sFin) (defBody sFin) (defScope sFin) .none mkV9 mdc9 mpm9 man9 mcd9 mct9), msl9⟩)
    (mc9 : PySem.W.codeIn K mcd9 "Turning.finish" = true)
    (mk9 : PySem.W.keepIn K (.ref m9) = true)
    (pgCW : PySem.W.plainGet K CW Str.empty = true)
    (hdCW : PySem.W.hasDictIn K CW = true)
    (poCW : PySem.W.plainOver K CW = true)
    (saCW : PySem.W.findIn K (.ref CW) "__setattr__" = some (some (.builtin "object.__setattr__")))
    (msCW : PySem.W.makesIn K CW = true)
    (kcCW : PySem.W.keepIn K (.ref CW) = true)
    (nCWtaken : PySem.W.findIn K (.ref CW) "taken" = some none)
    (nCWmany : PySem.W.findIn K (.ref CW) "many" = some none)
    (pgCT : PySem.W.plainGet K CT Str.empty = true)
    (hdCT : PySem.W.hasDictIn K CT = true)
    (poCT : PySem.W.plainOver K CT = true)
    (saCT : PySem.W.findIn K (.ref CT) "__setattr__" = some (some (.builtin "object.__setattr__")))
    (msCT : PySem.W.makesIn K CT = true)
    (kcCT : PySem.W.keepIn K (.ref CT) = true)
    (nCTnew_words : PySem.W.findIn K (.ref CT) "new_words" = some none)
    (nCTjobs : PySem.W.findIn K (.ref CT) "jobs" = some none)
    (nCTrows : PySem.W.findIn K (.ref CT) "rows" = some none)
    (nCTgot : PySem.W.findIn K (.ref CT) "got" = some none)
    (z_len : PySem.W.nsIn K mainGlobals "len" = some none)
    (z_isinstance : PySem.W.nsIn K mainGlobals "isinstance" = some none)
    (z_int : PySem.W.nsIn K mainGlobals "int" = some none)
    (z_tuple : PySem.W.nsIn K mainGlobals "tuple" = some none)
    (z_list : PySem.W.nsIn K mainGlobals "list" = some none)
    (z_str : PySem.W.nsIn K mainGlobals "str" = some none)
    (z_bool : PySem.W.nsIn K mainGlobals "bool" = some none)
    (z_max : PySem.W.nsIn K mainGlobals "max" = some none)
    (z_all : PySem.W.nsIn K mainGlobals "all" = some none)
    (z_dict : PySem.W.nsIn K mainGlobals "dict" = some none)
    (z_range : PySem.W.nsIn K mainGlobals "range" = some none)
    (z_enumerate : PySem.W.nsIn K mainGlobals "enumerate" = some none)
    (z_reversed : PySem.W.nsIn K mainGlobals "reversed" = some none)
    (z_set : PySem.W.nsIn K mainGlobals "set" = some none)
    (z_repr : PySem.W.nsIn K mainGlobals "repr" = some none)
    {tSIGNS : Tok}
    (qSIGNS : PySem.W.nsIn K mainGlobals "SIGNS" = some (some (.str lettersS tSIGNS)))
    {tBEHIND : Tok}
    (qBEHIND : PySem.W.nsIn K mainGlobals "BEHIND" = some (some (.str "q" tBEHIND)))
    {tHOME : Tok}
    (qHOME : PySem.W.nsIn K mainGlobals "HOME" = some (some (.str "home" tHOME)))
    : ∃ fd : FuncData, (∀ (s : Shared) (v : Value), BindsTo s fd ⟨[v], []⟩ [("script", v)]) ∧ ∀ base : Heap, K.In base → base.Ns mainGlobals mg → FnG l.prog w K mg base CX0 231 fa fd ["script"] (spLaw K) := by
  have e := hfa.symm.trans (PySem.W.mg_of X G a44)
  cases e
  have T : Txt K mg := ⟨PySem.W.mg_none_of X G z_len, PySem.W.mg_none_of X G z_isinstance, PySem.W.mg_none_of X G z_int, PySem.W.mg_none_of X G z_tuple, PySem.W.mg_none_of X G z_list, PySem.W.mg_none_of X G z_str, PySem.W.mg_none_of X G z_bool, PySem.W.mg_none_of X G z_max, PySem.W.mg_none_of X G z_all, PySem.W.mg_none_of X G z_dict, PySem.W.mg_none_of X G z_range, PySem.W.mg_none_of X G z_enumerate, PySem.W.mg_none_of X G z_reversed⟩
  have XN : TxN K mg CW CT := ⟨⟨pgCW, hdCW, poCW, saCW⟩, nCWtaken, nCWmany, ⟨pgCT, hdCT, poCT, saCT⟩, nCTnew_words, nCTjobs, nCTrows, nCTgot, PySem.W.mg_of X G gCW, PySem.W.mg_of X G gCT⟩
  have SX : TxS K mg := ⟨⟨_, PySem.W.mg_of X G qSIGNS⟩, ⟨_, PySem.W.mg_of X G qBEHIND⟩, ⟨_, PySem.W.mg_of X G qHOME⟩⟩
  have F1 := fun_mk (st := smet) l1 c1 k1
  have R1 : Ref K mg "met" f1 _ ["body", "parts"] := ⟨PySem.W.mg_of X G a1, k1, F1.binds (ps := ["body", "parts"]) fun _ _ _ _ _ _ us hl => match us, hl with | [_, _], _ => rfl⟩
  have F2 := fun_mk (st := slast_taken) l2 c2 k2
  have R2 : Ref K mg "last_taken" f2 _ ["got", "many"] := ⟨PySem.W.mg_of X G a2, k2, F2.binds (ps := ["got", "many"]) fun _ _ _ _ _ _ us hl => match us, hl with | [_, _], _ => rfl⟩
  have F3 := fun_mk (st := sparts_of) l3 c3 k3
  have R3 : Ref K mg "parts_of" f3 _ ["term"] := ⟨PySem.W.mg_of X G a3, k3, F3.binds (ps := ["term"]) fun _ _ _ _ _ _ us hl => match us, hl with | [_], _ => rfl⟩
  have F4 := fun_mk (st := swords_in) l4 c4 k4
  have R4 : Ref K mg "words_in" f4 _ ["names", "body"] := ⟨PySem.W.mg_of X G a4, k4, F4.binds (ps := ["names", "body"]) fun _ _ _ _ _ _ us hl => match us, hl with | [_, _], _ => rfl⟩
  have F5 := fun_mk (st := sword_of) l5 c5 k5
  have R5 : Ref K mg "word_of" f5 _ ["k"] := ⟨PySem.W.mg_of X G a5, k5, F5.binds (ps := ["k"]) fun _ _ _ _ _ _ us hl => match us, hl with | [_], _ => rfl⟩
  have F6 := fun_mk (st := sturn_book) l6 c6 k6
  have R6 : Ref K mg "turn_book" f6 _ ["book"] := ⟨PySem.W.mg_of X G a6, k6, F6.binds (ps := ["book"]) fun _ _ _ _ _ _ us hl => match us, hl with | [_], _ => rfl⟩
  have F7 := fun_mk (st := sturned_body) l7 c7 k7
  have R7 : Ref K mg "turned_body" f7 _ ["names", "body"] := ⟨PySem.W.mg_of X G a7, k7, F7.binds (ps := ["names", "body"]) fun _ _ _ _ _ _ us hl => match us, hl with | [_, _], _ => rfl⟩
  have F8 := fun_mk (st := sjobs_to_end) l8 c8 k8
  have R8 : Ref K mg "jobs_to_end" f8 _ ["term", "j"] := ⟨PySem.W.mg_of X G a8, k8, F8.binds (ps := ["term", "j"]) fun _ _ _ _ _ _ us hl => match us, hl with | [_, _], _ => rfl⟩
  have F9 := fun_mk (st := sput_ahead) l9 c9 k9
  have R9 : Ref K mg "put_ahead" f9 _ ["leads", "part"] := ⟨PySem.W.mg_of X G a9, k9, F9.binds (ps := ["leads", "part"]) fun _ _ _ _ _ _ us hl => match us, hl with | [_, _], _ => rfl⟩
  have F10 := fun_mk (st := s_law_cell_at) l10 c10 k10
  have R10 : Ref K mg "_law_cell_at" f10 _ ["script", "k"] := ⟨PySem.W.mg_of X G a10, k10, F10.binds (ps := ["script", "k"]) fun _ _ _ _ _ _ us hl => match us, hl with | [_, _], _ => rfl⟩
  have F11 := fun_mk (st := s_law_tape) l11 c11 k11
  have R11 : Ref K mg "_law_tape" f11 _ ["script", "k"] := ⟨PySem.W.mg_of X G a11, k11, F11.binds (ps := ["script", "k"]) fun _ _ _ _ _ _ us hl => match us, hl with | [_, _], _ => rfl⟩
  have F12 := fun_mk (st := s_law_digit) l12 c12 k12
  have R12 : Ref K mg "_law_digit" f12 _ ["tape", "many"] := ⟨PySem.W.mg_of X G a12, k12, F12.binds (ps := ["tape", "many"]) fun _ _ _ _ _ _ us hl => match us, hl with | [_, _], _ => rfl⟩
  have F13 := fun_mk (st := s_law_words) l13 c13 k13
  have R13 : Ref K mg "_law_words" f13 _ ["tape", "many"] := ⟨PySem.W.mg_of X G a13, k13, F13.binds (ps := ["tape", "many"]) fun _ _ _ _ _ _ us hl => match us, hl with | [_, _], _ => rfl⟩
  have F14 := fun_mk (st := s_law_number) l14 c14 k14
  have R14 : Ref K mg "_law_number" f14 _ ["tape"] := ⟨PySem.W.mg_of X G a14, k14, F14.binds (ps := ["tape"]) fun _ _ _ _ _ _ us hl => match us, hl with | [_], _ => rfl⟩
  have F15 := fun_mk (st := s_law_leaf) l15 c15 k15
  have R15 : Ref K mg "_law_leaf" f15 _ ["tape", "known", "around"] := ⟨PySem.W.mg_of X G a15, k15, F15.binds (ps := ["tape", "known", "around"]) fun _ _ _ _ _ _ us hl => match us, hl with | [_, _, _], _ => rfl⟩
  have F16 := fun_mk (st := s_law_shares) l16 c16 k16
  have R16 : Ref K mg "_law_shares" f16 _ ["tape", "room", "many"] := ⟨PySem.W.mg_of X G a16, k16, F16.binds (ps := ["tape", "room", "many"]) fun _ _ _ _ _ _ us hl => match us, hl with | [_, _, _], _ => rfl⟩
  have F17 := fun_mk (st := s_law_less_one) l17 c17 k17
  have R17 : Ref K mg "_law_less_one" f17 _ ["around"] := ⟨PySem.W.mg_of X G a17, k17, F17.binds (ps := ["around"]) fun _ _ _ _ _ _ us hl => match us, hl with | [_], _ => rfl⟩
  have F18 := fun_mk (st := s_law_ask) l18 c18 k18
  have R18 : Ref K mg "_law_ask" f18 _ ["tape", "known", "around", "room", "deep"] := ⟨PySem.W.mg_of X G a18, k18, F18.binds (ps := ["tape", "known", "around", "room", "deep"]) fun _ _ _ _ _ _ us hl => match us, hl with | [_, _, _, _, _], _ => rfl⟩
  have F19 := fun_mk (st := s_law_term) l19 c19 k19
  have R19 : Ref K mg "_law_term" f19 _ ["tape", "known", "around", "room", "deep"] := ⟨PySem.W.mg_of X G a19, k19, F19.binds (ps := ["tape", "known", "around", "room", "deep"]) fun _ _ _ _ _ _ us hl => match us, hl with | [_, _, _, _, _], _ => rfl⟩
  have F20 := fun_mk (st := s_law_body) l20 c20 k20
  have R20 : Ref K mg "_law_body" f20 _ ["tape", "known", "names", "room"] := ⟨PySem.W.mg_of X G a20, k20, F20.binds (ps := ["tape", "known", "names", "room"]) fun _ _ _ _ _ _ us hl => match us, hl with | [_, _, _, _], _ => rfl⟩
  have F21 := fun_mk (st := s_law_book) l21 c21 k21
  have R21 : Ref K mg "_law_book" f21 _ ["script", "start"] := ⟨PySem.W.mg_of X G a21, k21, F21.binds (ps := ["script", "start"]) fun _ _ _ _ _ _ us hl => match us, hl with | [_, _], _ => rfl⟩
  have F22 := fun_mk (st := N.s_law_parts) l22 c22 k22
  have R22 : Ref K mg "_law_parts" f22 _ ["term"] := ⟨PySem.W.mg_of X G a22, k22, F22.binds (ps := ["term"]) fun _ _ _ _ _ _ us hl => match us, hl with | [_], _ => rfl⟩
  have F23 := fun_mk (st := N.s_law_inner) l23 c23 k23
  have R23 : Ref K mg "_law_inner" f23 _ ["part"] := ⟨PySem.W.mg_of X G a23, k23, F23.binds (ps := ["part"]) fun _ _ _ _ _ _ us hl => match us, hl with | [_], _ => rfl⟩
  have F24 := fun_mk (st := N.s_law_simples) l24 c24 k24
  have R24 : Ref K mg "_law_simples" f24 _ ["part"] := ⟨PySem.W.mg_of X G a24, k24, F24.binds (ps := ["part"]) fun _ _ _ _ _ _ us hl => match us, hl with | [_], _ => rfl⟩
  have F25 := fun_mk (st := N.s_law_twords) l25 c25 k25
  have R25 : Ref K mg "_law_twords" f25 _ ["part"] := ⟨PySem.W.mg_of X G a25, k25, F25.binds (ps := ["part"]) fun _ _ _ _ _ _ us hl => match us, hl with | [_], _ => rfl⟩
  have F26 := fun_mk (st := N.s_law_tposts) l26 c26 k26
  have R26 : Ref K mg "_law_tposts" f26 _ ["part"] := ⟨PySem.W.mg_of X G a26, k26, F26.binds (ps := ["part"]) fun _ _ _ _ _ _ us hl => match us, hl with | [_], _ => rfl⟩
  have F27 := fun_mk (st := N.s_law_called) l27 c27 k27
  have R27 : Ref K mg "_law_called" f27 _ ["term", "words"] := ⟨PySem.W.mg_of X G a27, k27, F27.binds (ps := ["term", "words"]) fun _ _ _ _ _ _ us hl => match us, hl with | [_, _], _ => rfl⟩
  have F28 := fun_mk (st := N.s_law_tcalled) l28 c28 k28
  have R28 : Ref K mg "_law_tcalled" f28 _ ["part", "words", "posts"] := ⟨PySem.W.mg_of X G a28, k28, F28.binds (ps := ["part", "words", "posts"]) fun _ _ _ _ _ _ us hl => match us, hl with | [_, _, _], _ => rfl⟩
  have F29 := fun_mk (st := N.s_law_by_numbers) l29 c29 k29
  have R29 : Ref K mg "_law_by_numbers" f29 _ ["words"] := ⟨PySem.W.mg_of X G a29, k29, F29.binds (ps := ["words"]) fun _ _ _ _ _ _ us hl => match us, hl with | [_], _ => rfl⟩
  have F30 := fun_mk (st := N.s_law_anew) l30 c30 k30
  have R30 : Ref K mg "_law_anew" f30 _ ["turned"] := ⟨PySem.W.mg_of X G a30, k30, F30.binds (ps := ["turned"]) fun _ _ _ _ _ _ us hl => match us, hl with | [_], _ => rfl⟩
  have F31 := fun_mk (st := s_law_is_simple_term) l31 c31 k31
  have R31 : Ref K mg "_law_is_simple_term" f31 _ ["term"] := ⟨PySem.W.mg_of X G a31, k31, F31.binds (ps := ["term"]) fun _ _ _ _ _ _ us hl => match us, hl with | [_], _ => rfl⟩
  have F32 := fun_mk (st := s_law_done_to) l32 c32 k32
  have R32 : Ref K mg "_law_done_to" f32 _ ["term", "hand", "fresh"] := ⟨PySem.W.mg_of X G a32, k32, F32.binds (ps := ["term", "hand", "fresh"]) fun _ _ _ _ _ _ us hl => match us, hl with | [_, _, _], _ => rfl⟩
  have F33 := fun_mk (st := s_law_under) l33 c33 k33
  have R33 : Ref K mg "_law_under" f33 _ ["term", "x", "lead", "fresh"] := ⟨PySem.W.mg_of X G a33, k33, F33.binds (ps := ["term", "x", "lead", "fresh"]) fun _ _ _ _ _ _ us hl => match us, hl with | [_, _, _, _], _ => rfl⟩
  have F34 := fun_mk (st := s_law_made_simple) l34 c34 k34
  have R34 : Ref K mg "_law_made_simple" f34 _ ["term", "lead", "fresh"] := ⟨PySem.W.mg_of X G a34, k34, F34.binds (ps := ["term", "lead", "fresh"]) fun _ _ _ _ _ _ us hl => match us, hl with | [_, _, _], _ => rfl⟩
  have F35 := fun_mk (st := s_law_new) l35 c35 k35
  have R35 : Ref K mg "_law_new" f35 _ ["fresh"] := ⟨PySem.W.mg_of X G a35, k35, F35.binds (ps := ["fresh"]) fun _ _ _ _ _ _ us hl => match us, hl with | [_], _ => rfl⟩
  have F36 := fun_mk (st := s_law_behind_lead) l36 c36 k36
  have R36 : Ref K mg "_law_behind_lead" f36 _ ["lead", "part"] := ⟨PySem.W.mg_of X G a36, k36, F36.binds (ps := ["lead", "part"]) fun _ _ _ _ _ _ us hl => match us, hl with | [_, _], _ => rfl⟩
  have F37 := fun_mk (st := s_law_turned) l37 c37 k37
  have R37 : Ref K mg "_law_turned" f37 _ ["book"] := ⟨PySem.W.mg_of X G a37, k37, F37.binds (ps := ["book"]) fun _ _ _ _ _ _ us hl => match us, hl with | [_], _ => rfl⟩
  have F38 := fun_mk (st := s_law_is_word) l38 c38 k38
  have R38 : Ref K mg "_law_is_word" f38 _ ["word"] := ⟨PySem.W.mg_of X G a38, k38, F38.binds (ps := ["word"]) fun _ _ _ _ _ _ us hl => match us, hl with | [_], _ => rfl⟩
  have F39 := fun_mk (st := s_law_stands) l39 c39 k39
  have R39 : Ref K mg "_law_stands" f39 _ ["part", "names", "hands", "heads"] := ⟨PySem.W.mg_of X G a39, k39, F39.binds (ps := ["part", "names", "hands", "heads"]) fun _ _ _ _ _ _ us hl => match us, hl with | [_, _, _, _], _ => rfl⟩
  have F40 := fun_mk (st := s_law_terms) l40 c40 k40
  have R40 : Ref K mg "_law_terms" f40 _ ["term", "place"] := ⟨PySem.W.mg_of X G a40, k40, F40.binds (ps := ["term", "place"]) fun _ _ _ _ _ _ us hl => match us, hl with | [_, _], _ => rfl⟩
  have F41 := fun_mk (st := s_law_words_good) l41 c41 k41
  have R41 : Ref K mg "_law_words_good" f41 _ ["found"] := ⟨PySem.W.mg_of X G a41, k41, F41.binds (ps := ["found"]) fun _ _ _ _ _ _ us hl => match us, hl with | [_], _ => rfl⟩
  have F42 := fun_mk (st := s_law_told_book) l42 c42 k42
  have R42 : Ref K mg "_law_told_book" f42 _ ["words"] := ⟨PySem.W.mg_of X G a42, k42, F42.binds (ps := ["words"]) fun _ _ _ _ _ _ us hl => match us, hl with | [_], _ => rfl⟩
  have F43 := fun_mk (st := s_law_right) l43 c43 k43
  have R43 : Ref K mg "_law_right" f43 _ ["book"] := ⟨PySem.W.mg_of X G a43, k43, F43.binds (ps := ["book"]) fun _ _ _ _ _ _ us hl => match us, hl with | [_], _ => rfl⟩
  have F44 := fun_mk (st := slaw) l44 c44 k44
  have MF1 := fun_mk (st := sNew0) ml1 mc1 mk1
  have Mb1 := MF1.binds (ps := ["self", "taken"]) fun _ _ _ _ _ _ us hl => match us, hl with | [_, _], _ => rfl
  have MF2 := fun_mk (st := sMore) ml2 mc2 mk2
  have Mb2 := MF2.binds (ps := ["self"]) fun _ _ _ _ _ _ us hl => match us, hl with | [_], _ => rfl
  have MF3 := fun_mk (st := sT0) ml3 mc3 mk3
  have Mb3 := MF3.binds (ps := ["self", "new_words"]) fun _ _ _ _ _ _ us hl => match us, hl with | [_, _], _ => rfl
  have MF4 := fun_mk (st := sGo) ml4 mc4 mk4
  have Mb4 := MF4.binds (ps := ["self", "jobs"]) fun _ _ _ _ _ _ us hl => match us, hl with | [_, _], _ => rfl
  have MF5 := fun_mk (st := sJof) ml5 mc5 mk5
  have Mb5 := MF5.binds (ps := ["self", "job"]) fun _ _ _ _ _ _ us hl => match us, hl with | [_, _], _ => rfl
  have MF6 := fun_mk (st := sJdone) ml6 mc6 mk6
  have Mb6 := MF6.binds (ps := ["self", "term", "j"]) fun _ _ _ _ _ _ us hl => match us, hl with | [_, _, _], _ => rfl
  have MF7 := fun_mk (st := sJput) ml7 mc7 mk7
  have Mb7 := MF7.binds (ps := ["self", "term", "x"]) fun _ _ _ _ _ _ us hl => match us, hl with | [_, _, _], _ => rfl
  have MF8 := fun_mk (st := sJsimp) ml8 mc8 mk8
  have Mb8 := MF8.binds (ps := ["self", "term"]) fun _ _ _ _ _ _ us hl => match us, hl with | [_, _], _ => rfl
  have MF9 := fun_mk (st := sFin) ml9 mc9 mk9
  have Mb9 := MF9.binds (ps := ["self", "job"]) fun _ _ _ _ _ _ us hl => match us, hl with | [_, _], _ => rfl
  refine ⟨PySem.W.fnOf "law" "law" (defArgs slaw) (defBody slaw) (defScope slaw) .none kV44 dc44 pm44 an44 cd44 ct44, fun s v => .of_eq rfl, fun base _ _ => ?_⟩
  have G_law_cell_at := ok_cell (P := l.prog) (w := w) (mg := mg) (base := base) T F10
  have G_law_tape := ok_tape (P := l.prog) (w := w) (mg := mg) (base := base) T F11 G_law_cell_at R10
  have G_law_digit := ok_dig (P := l.prog) (w := w) (mg := mg) (base := base) F12
  have G_law_words := ok_words (P := l.prog) (w := w) (mg := mg) (base := base) T F13 G_law_digit R12
  have G_law_number := ok_num (P := l.prog) (w := w) (mg := mg) (base := base) F14 G_law_digit R12
  have G_law_leaf := ok_leaf (P := l.prog) (w := w) (mg := mg) (base := base) T F15 G_law_digit R12 G_law_number R14
  have G_law_shares := ok_shares (P := l.prog) (w := w) (mg := mg) (base := base) T F16 G_law_digit R12
  have G_law_less_one := ok_less (P := l.prog) (w := w) (mg := mg) (base := base) F17
  have G_law_term := all_term (P := l.prog) (w := w) (mg := mg) (base := base) T F19 F18 G_law_digit R12 G_law_leaf R15 G_law_shares R16 G_law_less_one R17 R19 R18 12
  have G_law_body := ok_body (P := l.prog) (w := w) (mg := mg) (base := base) T F20 G_law_digit R12 G_law_shares R16 G_law_term R19
  have G_law_book := ok_book (P := l.prog) (w := w) (mg := mg) (base := base) T F21 G_law_digit R12 G_law_tape R11 G_law_words R13 G_law_body R20
  have Gparts_of := ok_parts (P := l.prog) (w := w) (mg := mg) (base := base) F3
  have Gmet := ok_met (P := l.prog) (w := w) (mg := mg) (base := base) TrT F1 (parts_kids Gparts_of) R3.k R3.b
  have Gwords_in := ok_wordsIn (P := l.prog) (w := w) (mg := mg) (base := base) F4 Gmet R1 R3
  have Gword_of := ok_wordOf (P := l.prog) (w := w) (mg := mg) (base := base) T SX F5
  have GNewWords___init__ := ok_new0 (P := l.prog) (w := w) (mg := mg) (base := base) XN MF1
  have GNewWords_one_more := ok_more (P := l.prog) (w := w) (mg := mg) (base := base) XN MF2 Gword_of R5
  have Gjobs_to_end := ok_jend (P := l.prog) (w := w) (mg := mg) (base := base) T F8
  have Gput_ahead := ok_ahead (P := l.prog) (w := w) (mg := mg) (base := base) T F9
  have GTurning_jobs_done := ok_jdone (P := l.prog) (w := w) (mg := mg) (base := base) MF6 Gjobs_to_end R8
  have GTurning_jobs_put := ok_jput (P := l.prog) (w := w) (mg := mg) (base := base) XN MF7 Gjobs_to_end R8 GNewWords_one_more Mb2 ⟨ma2, mi2, mk2⟩
  have GTurning_jobs_simple := ok_jsimp (P := l.prog) (w := w) (mg := mg) (base := base) XN MF8 GNewWords_one_more Mb2 ⟨ma2, mi2, mk2⟩
  have GTurning_jobs_of := ok_jof (P := l.prog) (w := w) (mg := mg) (base := base) XN MF5 GTurning_jobs_done Mb6 ⟨ma6, mi6, mk6⟩ GTurning_jobs_put Mb7 ⟨ma7, mi7, mk7⟩ GTurning_jobs_simple Mb8 ⟨ma8, mi8, mk8⟩
  have Glast_taken := ok_last (P := l.prog) (w := w) (mg := mg) (base := base) T F2
  have GTurning_finish := ok_fin (P := l.prog) (w := w) (mg := mg) (base := base) T XN MF9 Gput_ahead R9 Glast_taken R2
  have GTurning_go := ok_go (P := l.prog) (w := w) (mg := mg) (base := base) XN MF4 GTurning_jobs_of Mb5 ⟨ma5, mi5, mk5⟩ GTurning_finish Mb9 ⟨ma9, mi9, mk9⟩
  have GTurning___init__ := ok_t0 (P := l.prog) (w := w) (mg := mg) (base := base) XN MF3
  have Gturned_body := ok_tbody (P := l.prog) (w := w) (mg := mg) (base := base) XN SX F7 Gwords_in R4 GNewWords___init__ Mb1 ⟨msCW, ma1, mi1, kcCW⟩ GTurning___init__ Mb3 ⟨msCT, ma3, mi3, kcCT⟩ GTurning_go Mb4 ⟨ma4, mi4, mk4⟩
  have Gturn_book := ok_tbook (P := l.prog) (w := w) (mg := mg) (base := base) T F6 Gturned_body R7
  have GN__law_inner := N.ok_inn (P := l.prog) (w := w) (mg := mg) (base := base) T F23
  have GN__law_simples := N.ok_smp (P := l.prog) (w := w) (mg := mg) (base := base) T F24
  have GN__law_twords := N.all_tw (P := l.prog) (w := w) (mg := mg) (base := base) F25 R25 GN__law_inner R23 161
  have GN__law_tposts := N.all_tp (P := l.prog) (w := w) (mg := mg) (base := base) F26 R26 GN__law_inner R23 161
  have GN__law_parts := N.ok_Lparts (P := l.prog) (w := w) (mg := mg) (base := base) T F22
  have GN__law_called := N.all_Lcalled (P := l.prog) (w := w) (mg := mg) (base := base) T F27 R27 GN__law_parts R22 64
  have GN__law_tcalled := N.all_tc (P := l.prog) (w := w) (mg := mg) (base := base) T F28 R28 GN__law_inner R23 GN__law_simples R24 GN__law_called R27 161
  have GN__law_by_numbers := N.ok_Lbyn (P := l.prog) (w := w) (mg := mg) (base := base) T F29
  have GN__law_anew := N.ok_lan (P := l.prog) (w := w) (mg := mg) (base := base) T F30 GN__law_by_numbers R29 GN__law_twords R25 GN__law_tposts R26 GN__law_tcalled R28
  have G_law_is_simple_term := all_simB (P := l.prog) (w := w) (mg := mg) (base := base) F31 R31 14
  have G_law_new := ok_newL (P := l.prog) (w := w) (mg := mg) (base := base) T F35
  have G_law_behind_lead := ok_beh (P := l.prog) (w := w) (mg := mg) (base := base) T F36
  have Gtn := all_tn (P := l.prog) (w := w) (mg := mg) (base := base) T F34 F33 F32 G_law_is_simple_term R31 G_law_new R35 (parts_kids GN__law_parts) R22 G_law_behind_lead R36 R34 R33 R32 14
  have G_law_turned := ok_ltd (P := l.prog) (w := w) (mg := mg) (base := base) T F37 Gtn.2.2 R32
  have G_law_is_word := ok_iw (P := l.prog) (w := w) (mg := mg) (base := base) T F38
  have G_law_terms := all_tms (P := l.prog) (w := w) (mg := mg) (base := base) T F40 R40 (parts_kids GN__law_parts) R22 64
  have G_law_stands := all_stn (P := l.prog) (w := w) (mg := mg) (base := base) T F39 R39 GN__law_simples R24 G_law_terms R40 GN__law_inner R23 161
  have G_law_words_good := ok_wg (P := l.prog) (w := w) (mg := mg) (base := base) T (PySem.W.mg_none_of X G z_set) F41 G_law_is_word R38 GN__law_twords R25 GN__law_tposts R26 G_law_stands R39
  have G_law_told_book := ok_told (P := l.prog) (w := w) (mg := mg) (base := base) T F42
  have G_law_right := ok_right (P := l.prog) (w := w) (mg := mg) (base := base) T (PySem.W.mg_none_of X G z_repr) F43 Gturn_book R6 G_law_turned R37 GN__law_anew R30 G_law_words_good R41
  exact ok_law T F44 G_law_book R21 G_law_tape R11 G_law_words R13 G_law_told_book R42 G_law_right R43
theorem walk {l : PySem.W.OpenLaw} {q : Program} {loose : List Str} {XP : (Str → Option Value) → Heap → Prop} {YP : World → Heap → Prop} {d : DefRec} {K : Params → PySem.W.Frag} (hn : l.most = some 63) (hdf : d.params.defaults = [])
    (hY : ∀ (w : World) (h : Heap), YP w h → (K w.params).In h)
    (F : ∀ (w : World) (mg : Str → Option Value) (fa : Addr) (h : Heap), (K w.params).In h → h.Ns mainGlobals mg → mg d.name = some (.ref fa) →
      ∃ fd : FuncData, (∀ (s : Shared) (u : Value), BindsTo s fd ⟨[u], []⟩ [("script", u)]) ∧ ∀ base : Heap, (K w.params).In base → base.Ns mainGlobals mg → FnG l.prog w (K w.params) mg base CX0 231 fa fd ["script"] (spLaw (K w.params))) :
    PySem.W.WalkO q loose XP YP l.row.toRowW d [] (fun f vs => PySem.call f vs) :=
  walk_G (n := 63) (k := 231) (x := "script") (sp := fun w => spLaw (K w.params)) hn (by decide) hdf ⟨rfl, by decide, by decide⟩ hY F (fun _ _ a ns hl hS => ⟨a, ns, rfl, hS, hl, fun _ => rfl⟩)
end KB

open PySem PySem.W PyProof.Rows in
set_option maxRecDepth 100000 in
set_option maxHeartbeats 0 in
theorem PySem.Challenge.cw_whatnext_k16_books_turned_holds : PySem.Challenge.rw_whatnext_k16_books_turned.Holds := by
  w_on; o_law; k_head; (case hw => w_witness2)
  k_fill
  refine KB.walk (l := PySem.Challenge.rw_whatnext_k16_books_turned) rfl rfl (fun w h Y => PySem.W.kIn_of Y) ?F
  case F =>
    intro w mg fa h KX G hmg
    refine' KB.all_mk KX G hmg ?a1 ?l1 ?c1 ?k1 ?a2 ?l2 ?c2 ?k2 ?a3 ?l3 ?c3 ?k3 ?a4 ?l4 ?c4 ?k4 ?a5 ?l5 ?c5 ?k5 ?a6 ?l6 ?c6 ?k6 ?a7 ?l7 ?c7 ?k7 ?a8 ?l8 ?c8 ?k8 ?a9 ?l9 ?c9 ?k9 ?a10 ?l10 ?c10 ?k10 ?a11 ?l11 ?c11 ?k11 ?a12 ?l12 ?c12 ?k12 ?a13 ?l13 ?c13 ?k13 ?a14 ?l14 ?c14 ?k14 ?a15 ?l15 ?c15 ?k15 ?a16 ?l16 ?c16 ?k16 ?a17 ?l17 ?c17 ?k17 ?a18 ?l18 ?c18 ?k18 ?a19 ?l19 ?c19 ?k19 ?a20 ?l20 ?c20 ?k20 ?a21 ?l21 ?c21 ?k21 ?a22 ?l22 ?c22 ?k22 ?a23 ?l23 ?c23 ?k23 ?a24 ?l24 ?c24 ?k24 ?a25 ?l25 ?c25 ?k25 ?a26 ?l26 ?c26 ?k26 ?a27 ?l27 ?c27 ?k27 ?a28 ?l28 ?c28 ?k28 ?a29 ?l29 ?c29 ?k29 ?a30 ?l30 ?c30 ?k30 ?a31 ?l31 ?c31 ?k31 ?a32 ?l32 ?c32 ?k32 ?a33 ?l33 ?c33 ?k33 ?a34 ?l34 ?c34 ?k34 ?a35 ?l35 ?c35 ?k35 ?a36 ?l36 ?c36 ?k36 ?a37 ?l37 ?c37 ?k37 ?a38 ?l38 ?c38 ?k38 ?a39 ?l39 ?c39 ?k39 ?a40 ?l40 ?c40 ?k40 ?a41 ?l41 ?c41 ?k41 ?a42 ?l42 ?c42 ?k42 ?a43 ?l43 ?c43 ?k43 ?a44 ?l44 ?c44 ?k44 ?gCW ?gCT ?ma1 ?mi1 ?ml1 ?mc1 ?mk1 ?ma2 ?mi2 ?ml2 ?mc2 ?mk2 ?ma3 ?mi3 ?ml3 ?mc3 ?mk3 ?ma4 ?mi4 ?ml4 ?mc4 ?mk4 ?ma5 ?mi5 ?ml5 ?mc5 ?mk5 ?ma6 ?mi6 ?ml6 ?mc6 ?mk6 ?ma7 ?mi7 ?ml7 ?mc7 ?mk7 ?ma8 ?mi8 ?ml8 ?mc8 ?mk8 ?ma9 ?mi9 ?ml9 ?mc9 ?mk9 ?pgCW ?hdCW ?poCW ?saCW ?msCW ?kcCW ?nCWtaken ?nCWmany ?pgCT ?hdCT ?poCT ?saCT ?msCT ?kcCT ?nCTnew_words ?nCTjobs ?nCTrows ?nCTgot ?z_len ?z_isinstance ?z_int ?z_tuple ?z_list ?z_str ?z_bool ?z_max ?z_all ?z_dict ?z_range ?z_enumerate ?z_reversed ?z_set ?z_repr ?qSIGNS ?qBEHIND ?qHOME
    (case a1 => k_is)
    (case l1 => k_is)
    (case c1 => k_is)
    (case k1 => k_is)
    (case a2 => k_is)
    (case l2 => k_is)
    (case c2 => k_is)
    (case k2 => k_is)
    (case a3 => k_is)
    (case l3 => k_is)
    (case c3 => k_is)
    (case k3 => k_is)
    (case a4 => k_is)
    (case l4 => k_is)
    (case c4 => k_is)
    (case k4 => k_is)
    (case a5 => k_is)
    (case l5 => k_is)
    (case c5 => k_is)
    (case k5 => k_is)
    (case a6 => k_is)
    (case l6 => k_is)
    (case c6 => k_is)
    (case k6 => k_is)
    (case a7 => k_is)
    (case l7 => k_is)
    (case c7 => k_is)
    (case k7 => k_is)
    (case a8 => k_is)
    (case l8 => k_is)
    (case c8 => k_is)
    (case k8 => k_is)
    (case a9 => k_is)
    (case l9 => k_is)
    (case c9 => k_is)
    (case k9 => k_is)
    (case a10 => k_is)
    (case l10 => k_is)
    (case c10 => k_is)
    (case k10 => k_is)
    (case a11 => k_is)
    (case l11 => k_is)
    (case c11 => k_is)
    (case k11 => k_is)
    (case a12 => k_is)
    (case l12 => k_is)
    (case c12 => k_is)
    (case k12 => k_is)
    (case a13 => k_is)
    (case l13 => k_is)
    (case c13 => k_is)
    (case k13 => k_is)
    (case a14 => k_is)
    (case l14 => k_is)
    (case c14 => k_is)
    (case k14 => k_is)
    (case a15 => k_is)
    (case l15 => k_is)
    (case c15 => k_is)
    (case k15 => k_is)
    (case a16 => k_is)
    (case l16 => k_is)
    (case c16 => k_is)
    (case k16 => k_is)
    (case a17 => k_is)
    (case l17 => k_is)
    (case c17 => k_is)
    (case k17 => k_is)
    (case a18 => k_is)
    (case l18 => k_is)
    (case c18 => k_is)
    (case k18 => k_is)
    (case a19 => k_is)
    (case l19 => k_is)
    (case c19 => k_is)
    (case k19 => k_is)
    (case a20 => k_is)
    (case l20 => k_is)
    (case c20 => k_is)
    (case k20 => k_is)
    (case a21 => k_is)
    (case l21 => k_is)
    (case c21 => k_is)
    (case k21 => k_is)
    (case a22 => k_is)
    (case l22 => k_is)
    (case c22 => k_is)
    (case k22 => k_is)
    (case a23 => k_is)
    (case l23 => k_is)
    (case c23 => k_is)
    (case k23 => k_is)
    (case a24 => k_is)
    (case l24 => k_is)
    (case c24 => k_is)
    (case k24 => k_is)
    (case a25 => k_is)
    (case l25 => k_is)
    (case c25 => k_is)
    (case k25 => k_is)
    (case a26 => k_is)
    (case l26 => k_is)
    (case c26 => k_is)
    (case k26 => k_is)
    (case a27 => k_is)
    (case l27 => k_is)
    (case c27 => k_is)
    (case k27 => k_is)
    (case a28 => k_is)
    (case l28 => k_is)
    (case c28 => k_is)
    (case k28 => k_is)
    (case a29 => k_is)
    (case l29 => k_is)
    (case c29 => k_is)
    (case k29 => k_is)
    (case a30 => k_is)
    (case l30 => k_is)
    (case c30 => k_is)
    (case k30 => k_is)
    (case a31 => k_is)
    (case l31 => k_is)
    (case c31 => k_is)
    (case k31 => k_is)
    (case a32 => k_is)
    (case l32 => k_is)
    (case c32 => k_is)
    (case k32 => k_is)
    (case a33 => k_is)
    (case l33 => k_is)
    (case c33 => k_is)
    (case k33 => k_is)
    (case a34 => k_is)
    (case l34 => k_is)
    (case c34 => k_is)
    (case k34 => k_is)
    (case a35 => k_is)
    (case l35 => k_is)
    (case c35 => k_is)
    (case k35 => k_is)
    (case a36 => k_is)
    (case l36 => k_is)
    (case c36 => k_is)
    (case k36 => k_is)
    (case a37 => k_is)
    (case l37 => k_is)
    (case c37 => k_is)
    (case k37 => k_is)
    (case a38 => k_is)
    (case l38 => k_is)
    (case c38 => k_is)
    (case k38 => k_is)
    (case a39 => k_is)
    (case l39 => k_is)
    (case c39 => k_is)
    (case k39 => k_is)
    (case a40 => k_is)
    (case l40 => k_is)
    (case c40 => k_is)
    (case k40 => k_is)
    (case a41 => k_is)
    (case l41 => k_is)
    (case c41 => k_is)
    (case k41 => k_is)
    (case a42 => k_is)
    (case l42 => k_is)
    (case c42 => k_is)
    (case k42 => k_is)
    (case a43 => k_is)
    (case l43 => k_is)
    (case c43 => k_is)
    (case k43 => k_is)
    (case a44 => k_is)
    (case l44 => k_is)
    (case c44 => k_is)
    (case k44 => k_is)
    (case gCW => k_is)
    (case gCT => k_is)
    (case ma1 => k_is)
    (case mi1 => k_is)
    (case ml1 => k_is)
    (case mc1 => k_is)
    (case mk1 => k_is)
    (case ma2 => k_is)
    (case mi2 => k_is)
    (case ml2 => k_is)
    (case mc2 => k_is)
    (case mk2 => k_is)
    (case ma3 => k_is)
    (case mi3 => k_is)
    (case ml3 => k_is)
    (case mc3 => k_is)
    (case mk3 => k_is)
    (case ma4 => k_is)
    (case mi4 => k_is)
    (case ml4 => k_is)
    (case mc4 => k_is)
    (case mk4 => k_is)
    (case ma5 => k_is)
    (case mi5 => k_is)
    (case ml5 => k_is)
    (case mc5 => k_is)
    (case mk5 => k_is)
    (case ma6 => k_is)
    (case mi6 => k_is)
    (case ml6 => k_is)
    (case mc6 => k_is)
    (case mk6 => k_is)
    (case ma7 => k_is)
    (case mi7 => k_is)
    (case ml7 => k_is)
    (case mc7 => k_is)
    (case mk7 => k_is)
    (case ma8 => k_is)
    (case mi8 => k_is)
    (case ml8 => k_is)
    (case mc8 => k_is)
    (case mk8 => k_is)
    (case ma9 => k_is)
    (case mi9 => k_is)
    (case ml9 => k_is)
    (case mc9 => k_is)
    (case mk9 => k_is)
    (case pgCW => k_is)
    (case hdCW => k_is)
    (case poCW => k_is)
    (case saCW => k_is)
    (case msCW => k_is)
    (case kcCW => k_is)
    (case nCWtaken => k_is)
    (case nCWmany => k_is)
    (case pgCT => k_is)
    (case hdCT => k_is)
    (case poCT => k_is)
    (case saCT => k_is)
    (case msCT => k_is)
    (case kcCT => k_is)
    (case nCTnew_words => k_is)
    (case nCTjobs => k_is)
    (case nCTrows => k_is)
    (case nCTgot => k_is)
    (case z_len => k_is)
    (case z_isinstance => k_is)
    (case z_int => k_is)
    (case z_tuple => k_is)
    (case z_list => k_is)
    (case z_str => k_is)
    (case z_bool => k_is)
    (case z_max => k_is)
    (case z_all => k_is)
    (case z_dict => k_is)
    (case z_range => k_is)
    (case z_enumerate => k_is)
    (case z_reversed => k_is)
    (case z_set => k_is)
    (case z_repr => k_is)
    (case qSIGNS => k_is)
    (case qBEHIND => k_is)
    (case qHOME => k_is)
#print axioms PySem.Challenge.cw_whatnext_k16_books_turned_holds
