import PyProof.Rows.All
import Wide.All
import OpenK.AllK
import Wide.FinOn
import HandS.ForMost
import HandS.TupAny
import HandS.Style
import HandS.IsInst
import HandS.Star
import HandS.RevRange
import HandS.Wide
import HandS.Conv
import PyProof.StrOps2
import HandS.Evl
import HandS.CallLocal
import HandS.Deep
import HandS.ForExc
import HandS.DictTup
import HandS.Walk
import KE.KDictKeyed
import HandS.Iter
import HandS.ExcIs
import HandS.ExcValue
import HandS.SetFor
import HandS.TupLe
import PySem.Challenge.RW_whatnext_k62_where_none_is_carried
set_option Elab.async false
set_option maxRecDepth 100000
set_option maxHeartbeats 8000000
set_option linter.unusedVariables false
namespace KB
open PySem L2
open PySem.AutoSeq1 PySem.MeetsSeq PySem.MeetsSeq2 PySem.MeetsSeq3

def top (i : Nat) : Stmt := (PySem.Challenge.pw_whatnext_k62_where_none_is_carried).main.body.getD i (.Pass ⟨0, 0, 0, 0⟩)

/-! ### two rules that the layer lacks: a list extended by a tuple, a text times a number -/
theorem ext_lt (l b : Addr) (us ws : Array Value) (n m : Nat) (dd : Option Addr) (sl : Array (Option Value))
    (h0 : ¬(!us.isEmpty && Builtin.List.listTooLong (us.size + ws.size)) = true) (h1 : us.size ≤ sizeLine) (h2 : us.size + ws.size ≤ sizeLine + 1) :
    Meets (Builtin.«list.extend» ⟨[.ref l, .ref b], []⟩) (fun _ R s => s.heap.get? l = some { cls := .type "list", dict := none, data := .seq us n, slots := #[] } ∧
      s.heap.get? b = some { cls := .type "tuple", dict := dd, data := .seq ws m, slots := sl } ∧
      R (.ok (.ret Value.none)) { s with heap := s.heap.update l (Obj.mapSeq fun x => x ++ ws), toks := s.toks }) := by
  refine .of_wp fun prog w A R s h => ?_
  obtain ⟨hp, g, d, tk, os⟩ := s
  obtain ⟨hl, hb, h⟩ := h
  have f1 := idx_int; have f2 := sub_tuple_tuple; have f3 := sub_list_list; have f4 := sub_tuple_list; have f5 := sub_list_tuple
  have hz' : (us ++ ws).size ≤ sizeLine + 1 := by
    rw [Array.size_append]
    exact h2
  wp_walk using (wpAny_updateSeq hl rfl (hz := h1) (_hz' := hz')), wpAny_loadPart' hl, wpAny_loadPart' hb
  exact ⟨_, rfl, h⟩
section
variable {X : Cx}
def rExtT (K : PySem.W.Frag) : V → List V → Hp → VK → Prop := fun x vs H Q => ∃ l b xs zs, x = .ref l ∧ vs = [.ref b] ∧ H l = some (.lst xs) ∧ SqT K H b zs ∧ xs.length + zs.length ≤ sizeLine ∧ Q .non (upd H l (.lst (xs ++ zs)))
theorem mt_extT : MtR X "list.extend" (rExtT X.K) := by
  intro pins s σ H x vs v us Q I rx rv h
  obtain ⟨l, b, xs, zs, rfl, rfl, hH, hB, hz, q⟩ := h
  cases rx
  obtain ⟨u, rfl, ru⟩ := rv.one
  cases ru
  obtain ⟨z, its, n, r, hl, e⟩ := I.lstM hH
  obtain ⟨its2, r2, ⟨⟨c2, d2, a2, s2⟩, e2, hc, n2, hd⟩, _⟩ := I.tuple hB
  cases hc
  cases hd
  have hl2 := r2.length
  have hsz : its.toArray.size + its2.toArray.size ≤ sizeLine := by
    rw [List.size_toArray, List.size_toArray]
    omega
  have hlong : ¬ (!its.toArray.isEmpty && Builtin.List.listTooLong (its.toArray.size + its2.toArray.size)) = true := by
    rw [notLongL hsz, Bool.and_false]
    exact Bool.false_ne_true
  refine call_meets F.slot_list_extend ⟨_, e, rfl⟩ F.entry_list_extend (F.args_list_extend_2 _ _)
    (ext_lt l b its.toArray its2.toArray n n2 d2 s2 hlong (by rw [List.size_toArray]; omega) (by omega)) ⟨e, e2, ?_⟩
  exact ⟨.non, _, I.lset (its' := its ++ its2) hH e (by simp) (r.append r2) (by rw [List.length_append]; exact hz), rfl, q⟩
end
end KB

namespace KB
open PySem L2

/-! ### terms as data -/
inductive Hd | num (z : Int) | nam (x : Str) | plus | less | tell | lett (x : Str) | iff | ask (f : Str)
inductive Tm | mk (h : Hd) (n : Nat) (k : Fin n → Tm)
def hs : Hd → Str
  | .num _ => "number" | .nam _ => "name" | .plus => "plus" | .less => "less" | .tell => "tell" | .lett _ => "let" | .iff => "if" | .ask _ => "ask"
/-- what stands at a, xs being its parts -/
def Lay (H : Hp) (a : Addr) : Hd → List V → Prop
  | .num z, xs => xs = [] ∧ H a = some (.tup [.str "number", .int z])
  | .nam x, xs => xs = [] ∧ H a = some (.tup [.str "name", .str x])
  | .plus, xs => xs.length = 2 ∧ H a = some (.tup (.str "plus" :: xs))
  | .less, xs => xs.length = 2 ∧ H a = some (.tup (.str "less" :: xs))
  | .tell, xs => xs.length = 1 ∧ H a = some (.tup (.str "tell" :: xs))
  | .lett x, xs => xs.length = 2 ∧ H a = some (.tup (.str "let" :: .str x :: xs))
  | .iff, xs => xs.length = 3 ∧ H a = some (.tup (.str "if" :: xs))
  | .ask f, xs => xs.length ≤ 4 ∧ ∃ p, H a = some (.tup [.str "ask", .str f, .ref p]) ∧ H p = some (.tup xs)
def Rfs {n : Nat} (ys : Fin n → Addr) : List V := List.ofFn fun i => V.ref (ys i)
def At (H : Hp) : Tm → Addr → Prop
  | .mk h n k, a => ∃ ys : Fin n → Addr, Lay H a h (Rfs ys) ∧ ∀ i, At H (k i) (ys i)
def cnt : Tm → Nat
  | .mk _ _ k => 1 + (List.ofFn fun i => cnt (k i)).sum
def places : Tm → List (List Int)
  | .mk _ n k => [] :: (List.ofFn fun i : Fin n => (places (k i)).map ((i.val : Int) :: ·)).flatten
def flatHd : Hd → Bool
  | .num _ | .nam _ | .plus | .less => true
  | _ => false
def simple : Tm → Bool
  | .mk h _ k => flatHd h && (List.ofFn fun i => simple (k i)).all id
def letsOf : Tm → List Str
  | .mk h _ k => (match h with | .lett x => [x] | _ => []) ++ (List.ofFn fun i => letsOf (k i)).flatten

theorem Lay.mono {H H' : Hp} (e : Same H H') {a : Addr} {h : Hd} {xs : List V} (l : Lay H a h xs) : Lay H' a h xs := by
  cases h with
  | ask f => obtain ⟨z, p, h1, h2⟩ := l; exact ⟨z, p, e _ _ h1, e _ _ h2⟩
  | _ => exact ⟨l.1, e _ _ l.2⟩
theorem At.mono {H H' : Hp} (e : Same H H') : ∀ {t : Tm} {a : Addr}, At H t a → At H' t a := by
  intro t
  induction t with
  | mk h n k ih =>
    rintro a ⟨ys, l, r⟩
    exact ⟨ys, l.mono e, fun i => ih i (r i)⟩
/-- every node begins with its word -/
theorem Lay.head {H : Hp} {a : Addr} {h : Hd} {xs : List V} (l : Lay H a h xs) : ∃ r, H a = some (.tup (.str (hs h) :: r)) := by
  cases h with
  | ask f => obtain ⟨z, p, h1, h2⟩ := l; exact ⟨_, h1⟩
  | _ => exact ⟨_, l.2⟩

theorem same_new {H : Hp} {p : Addr} (h : H p = none) (o : HO) : Same H (upd H p o) := fun b u q => by
  rw [upd_ne (ne_of_none q h)]
  exact q
theorem sIx_at {n d : Nat} {i : Int} (h0 : 0 ≤ i) (h : i.toNat ≤ n) : HT.sIx n d (some i) = i.toNat := by
  show (if i < 0 then (i + (n : Int)).toNat else min i.toNat n) = i.toNat
  rw [if_neg (by omega)]
  omega
theorem sIx_no {n d : Nat} : HT.sIx n d none = d := rfl
theorem not_whole {xs : List V} {i : Int} (h0 : 0 < i) (h : i.toNat ≤ xs.length) : ¬ (HT.sIx xs.length 0 (some i) = 0 ∧ HT.sIx xs.length xs.length none = xs.length) := by
  rw [sIx_at (by omega) h]
  omega
theorem cut_from {xs : List V} {i : Int} (h0 : 0 ≤ i) (h : i.toNat ≤ xs.length) : cutV xs (some i) none = xs.drop i.toNat := by
  unfold cutV
  rw [sIx_at h0 h, sIx_no, List.take_of_length_le (by rw [List.length_drop]; exact Nat.le_refl _)]
theorem len1 {α : Type} {x : α} {r : List α} : 1 ≤ (x :: r).length := Nat.succ_le_succ (Nat.zero_le _)
theorem len2 {α : Type} {x y : α} {r : List α} : 2 ≤ (x :: y :: r).length := Nat.succ_le_succ len1
theorem cut1 {x : V} {r : List V} : cutV (x :: r) (some 1) none = r := cut_from (i := 1) (by decide) len1
theorem cut2 {x y : V} {r : List V} : cutV (x :: y :: r) (some 2) none = r := cut_from (i := 2) (by decide) len2
theorem itT {b : Bool} {A B : Prop} (e : b = true) (h : A) : if b = true then A else B := by
  rw [if_pos e]
  exact h
theorem itF {b : Bool} {A B : Prop} (e : b = false) (h : B) : if b = true then A else B := by
  rw [if_neg (by rw [e]; exact Bool.false_ne_true)]
  exact h
theorem at0 {x : V} {r : List V} : atI (x :: r) 0 = some x := at_of (j := 0) rfl rfl
theorem at1 {x y : V} {r : List V} : atI (x :: y :: r) 1 = some y := at_of (j := 1) rfl rfl
theorem at2 {x y z : V} {r : List V} : atI (x :: y :: z :: r) 2 = some z := at_of (j := 2) rfl rfl
theorem sz {n : Nat} (h : n ≤ 100000) : n ≤ sizeLine := Nat.le_trans h (by decide)
/-- the facts of the top -/
structure Ref (K : PySem.W.Frag) (mg : Str → Option Value) (x : Str) (f : Addr) (fd : FuncData) (ps : List Str) : Prop where
  m : mg x = some (.ref f)
  k : PySem.W.keepIn K (.ref f) = true
  b : Binds K fd ps []
structure Txt (K : PySem.W.Frag) (mg : Str → Option Value) : Prop where
  m_len : mg "len" = none
  m_isinstance : mg "isinstance" = none
  m_int : mg "int" = none
  m_tuple : mg "tuple" = none
  m_list : mg "list" = none
  m_str : mg "str" = none
  m_bool : mg "bool" = none
  m_max : mg "max" = none
  m_all : mg "all" = none
  m_dict : mg "dict" = none
  m_range : mg "range" = none
  m_enumerate : mg "enumerate" = none
  m_reversed : mg "reversed" = none

section
variable {P : Program} {w : World} {K : PySem.W.Frag} {mg : Str → Option Value} {base : Heap}
/-! ### parts_of and _law_parts -/
def spParts : Sp := fun vs H Q _ => ∃ a h xs, vs = [.ref a] ∧ Lay H a h xs ∧ ∀ p H', Same H H' → H' p = some (.tup xs) → Q (.ref p) H'
abbrev sparts_of : Stmt := top 9
theorem scparts_of : FnScope ["term"] ["term"] (defScope sparts_of) := ⟨rfl, rfl, rfl, by decide +kernel, rfl, by decide +kernel, by decide +kernel⟩
theorem ok_parts {f : Addr} {fd : FuncData} (F : Fun K "parts_of" "parts_of" sparts_of f fd) : FnOk P w K mg base CX0 1 f fd ["term"] spParts := by
  refine F.ok scparts_of (fun vs H Q E h => ?_) (fun cdv A outer s H vs Q E hr h => ?_)
  · obtain ⟨a, h, xs, rfl, _⟩ := h
    rfl
  obtain ⟨a, h, xs, rfl, l, q⟩ := h
  refine ⟨_, (pss_cons (ps_if (pt_cmpR op_in_seq (pe_ix ix_tup (pv 0) pe_int (fun _ _ => rfl)) (pe_tup (pa_cons pe_str (pa_cons pe_str pa_nil))) rfl) (pss_one (ps_ret (pe_tup pa_nil))) pss_nil)
    (pss_cons (ps_if (pt_cmpR op_eq (pe_ix ix_tup (pv 0) pe_int (fun _ _ => rfl)) pe_str (nomark _)) (pss_one (ps_ret (pe_ix ix_tup (pv 0) pe_int (fun _ _ => rfl)))) pss_nil)
    (pss_cons (ps_if (pt_cmpR op_eq (pe_ix ix_tup (pv 0) pe_int (fun _ _ => rfl)) pe_str (nomark _)) (pss_one (ps_ret (pe_slice sl_tupA (pv 0) (po_some pe_int) po_none))) pss_nil)
    (pss_one (ps_ret (pe_slice sl_tupA (pv 0) (po_some pe_int) po_none)))))), ?_⟩
  obtain ⟨r, hd⟩ := l.head
  refine ⟨_, rfl, a, _, _, _, rfl, rfl, SqT.of hd, at0, sz (by show 2 ≤ 100000; decide), fun t ht => ?_⟩
  have s1 := same_new ht (.tup [.str "number", .str "name"])
  have l1 := l.mono s1
  refine ⟨t, _, rfl, .inr (SqT.of upd_same), rfl, rfl, _, rfl, ?_⟩
  cases h with
  | num z =>
    refine itT rfl ⟨sz (by decide), fun p hp => q p _ (s1.trans (same_new hp _)) ?_⟩
    rw [l.1, upd_same]
  | nam z =>
    refine itT rfl ⟨sz (by decide), fun p hp => q p _ (s1.trans (same_new hp _)) ?_⟩
    rw [l.1, upd_same]
  | ask f =>
    obtain ⟨l1, p, l2, l3⟩ := l
    refine itF rfl ⟨_, rfl, a, _, _, _, rfl, rfl, SqT.of (s1 _ _ l2), at0, rfl, _, rfl, ?_⟩
    refine itT rfl ⟨_, rfl, a, _, _, _, rfl, rfl, SqT.of (s1 _ _ l2), at2, ?_⟩
    exact q p _ s1 (s1 _ _ l3)
  | lett x =>
    refine itF rfl ⟨_, rfl, a, _, _, _, rfl, rfl, SqT.of (s1 _ _ l.2), at0, rfl, _, rfl, ?_⟩
    refine itF rfl ⟨_, rfl, a, _, _, _, rfl, rfl, SqT.of (s1 _ _ l.2), at0, rfl, _, rfl, ?_⟩
    refine itT rfl ⟨_, rfl, _, rfl, a, _, rfl, SqT.of (s1 _ _ l.2), ?_, ?_⟩
    · exact fun z => absurd z (not_whole (by decide) len2)
    · intro _ p hp
      refine q p _ (s1.trans (same_new hp _)) ?_
      rw [upd_same, cut2]
  | plus | less | tell | iff =>
    refine itF rfl ⟨_, rfl, a, _, _, _, rfl, rfl, SqT.of (s1 _ _ l.2), at0, rfl, _, rfl, ?_⟩
    refine itF rfl ⟨_, rfl, a, _, _, _, rfl, rfl, SqT.of (s1 _ _ l.2), at0, rfl, _, rfl, ?_⟩
    refine itF rfl ⟨_, rfl, _, rfl, a, _, rfl, SqT.of (s1 _ _ l.2), ?_, ?_⟩
    · exact fun z => absurd z (not_whole (by decide) len1)
    · intro _ p hp
      refine q p _ (s1.trans (same_new hp _)) ?_
      rw [upd_same, cut1]
end
end KB

namespace KB
open PySem L2

/-! ### rules and small facts -/
def repS (z : Str) (k : Int) : Str := ⟨(List.replicate k.toNat z.cps).foldl (· ++ ·) #[]⟩
def rMulS : R2 := fun x y H Q => ∃ z k, x = .str z ∧ y = .int k ∧ 1 ≤ k ∧ k ≤ 1000 ∧ 1 ≤ z.length ∧ z.length ≤ 1000 ∧ Q (.str (repS z k)) H
theorem repS_one (z : Str) : repS z 1 = z := by
  unfold repS
  show (⟨#[] ++ z.cps⟩ : Str) = z
  rw [Array.empty_append]
theorem size_rep (xs : Array Nat) : ∀ (k : Nat) (acc : Array Nat), ((List.replicate k xs).foldl (· ++ ·) acc).size = acc.size + k * xs.size
  | 0, acc => by
    rw [Nat.zero_mul]
    rfl
  | k + 1, acc => by
    rw [List.replicate_succ, List.foldl_cons, size_rep xs k, Array.size_append, Nat.succ_mul]
    omega
theorem op_mul_str {X : Cx} : OpR X (binaryOp .Mult) rMulS := by
  intro pins s σ H x y v u Q I rx ry h
  obtain ⟨z, k, rfl, rfl, h1, h2, h3, h4, q⟩ := h
  obtain ⟨t, rfl⟩ := rx
  obtain ⟨t', rfl⟩ := ry
  refine PySem.P.mul_str ?_ ?_ ?_ ?_
  · rw [decide_eq_false (by omega), decide_eq_false (by omega)]
    rfl
  · intro _ _
    have e1 : (1000 : Int) * k ≤ 1000000 := by omega
    have e2 : (9223372036854775807 : Int) / k ≥ 9223372036854775 := by
      have e3 : (9223372036854775807 : Int) / k ≥ 9223372036854775807 / 1000 := by
        refine Int.le_ediv_of_mul_le (by omega) ?_
        have : (9223372036854775807 / 1000 : Int) = 9223372036854775 := by decide
        rw [this]
        have : (9223372036854775 : Int) * k ≤ 9223372036854775 * 1000 := Int.mul_le_mul_of_nonneg_left h2 (by decide)
        omega
      have : (9223372036854775807 / 1000 : Int) = 9223372036854775 := by decide
      omega
    have e4 : ((2 : Int) ^ 63 - 1) = 9223372036854775807 := by decide
    rw [e4]
    omega
  · intro _ _
    have e : z.length * k.toNat ≤ 1000 * 1000 := Nat.mul_le_mul h4 (by omega)
    exact decide_eq_false (by show ¬ _ > sizeLine; exact Nat.not_lt.mpr (Nat.le_trans e (by decide)))
  · rw [if_neg (by omega)]
    have hz : (z.length == 0) = false := by
      rw [beq_eq_false_iff_ne]
      omega
    by_cases hk : k = 1
    · subst hk
      rw [if_pos (by rfl)]
      rw [repS_one] at q
      exact ⟨.str z, H, I, ⟨t, rfl⟩, q⟩
    · have hk2 : (k == 1) = false := by
        rw [beq_eq_false_iff_ne]
        exact hk
      rw [if_neg (by rw [hk2, hz]; decide)]
      have e : z.length * k.toNat ≤ 1000 * 1000 := Nat.mul_le_mul h4 (by omega)
      have e2 := size_rep z.cps k.toNat #[]
      refine ⟨?_, .str (repS z k), H, I.tok _, ⟨_, rfl⟩, q⟩
      show (List.foldl (fun x1 x2 => x1 ++ x2) #[] (List.replicate k.toNat z.cps)).size ≤ sizeLine
      rw [e2, Nat.mul_comm]
      show 0 + z.length * k.toNat ≤ sizeLine
      rw [Nat.zero_add]
      exact Nat.le_trans e (by decide)

/-! ### stacks of terms -/
def Stk (H : Hp) : List V → List Tm → Prop
  | [], [] => True
  | v :: vs, t :: ts => (∃ b, v = .ref b ∧ At H t b) ∧ Stk H vs ts
  | _, _ => False
theorem Stk.mono {H H' : Hp} (e : Same H H') : ∀ {vs : List V} {ts : List Tm}, Stk H vs ts → Stk H' vs ts
  | [], [], _ => trivial
  | _ :: _, _ :: _, h => ⟨let ⟨b, e1, h1⟩ := h.1; ⟨b, e1, h1.mono e⟩, Stk.mono e h.2⟩
  | [], _ :: _, h => h.elim
  | _ :: _, [], h => h.elim
theorem Stk.app {H : Hp} : ∀ {vs us : List V} {ts ss : List Tm}, Stk H vs ts → Stk H us ss → Stk H (vs ++ us) (ts ++ ss)
  | [], _, [], _, _, k => k
  | _ :: _, _, _ :: _, _, h, k => ⟨h.1, Stk.app h.2 k⟩
  | [], _, _ :: _, _, h, _ => h.elim
  | _ :: _, _, [], _, h, _ => h.elim
theorem Stk.rev {H : Hp} : ∀ {vs : List V} {ts : List Tm}, Stk H vs ts → Stk H vs.reverse ts.reverse
  | [], [], _ => trivial
  | v :: vs, t :: ts, h => by
    rw [List.reverse_cons, List.reverse_cons]
    exact Stk.app (Stk.rev h.2) ⟨h.1, trivial⟩
  | [], _ :: _, h => h.elim
  | _ :: _, [], h => h.elim
theorem Stk.len {H : Hp} : ∀ {vs : List V} {ts : List Tm}, Stk H vs ts → vs.length = ts.length
  | [], [], _ => rfl
  | _ :: _, _ :: _, h => congrArg (· + 1) (Stk.len h.2)
  | [], _ :: _, h => h.elim
  | _ :: _, [], h => h.elim
theorem Stk.fn {H : Hp} : ∀ {n : Nat} {ys : Fin n → Addr} {k : Fin n → Tm}, (∀ i, At H (k i) (ys i)) → Stk H (Rfs ys) (List.ofFn k)
  | 0, _, _, _ => trivial
  | n + 1, ys, k, h => by
    unfold Rfs
    rw [List.ofFn_succ, List.ofFn_succ]
    exact ⟨⟨_, rfl, h 0⟩, Stk.fn (ys := fun i => ys i.succ) (k := fun i => k i.succ) fun i => h i.succ⟩
def cnts (ts : List Tm) : Nat := (ts.map cnt).sum
theorem cnts_app (a b : List Tm) : cnts (a ++ b) = cnts a + cnts b := by
  unfold cnts
  rw [List.map_append, List.sum_append]
theorem cnts_rev (a : List Tm) : cnts a.reverse = cnts a := by
  induction a with
  | nil => rfl
  | cons x r ih =>
    rw [List.reverse_cons, cnts_app, ih]
    unfold cnts
    simp only [List.map_cons, List.map_nil, List.sum_cons, List.sum_nil]
    omega
theorem cnt_mk {h : Hd} {n : Nat} {k : Fin n → Tm} : cnt (.mk h n k) = 1 + cnts (List.ofFn k) := by
  show 1 + (List.ofFn fun i => cnt (k i)).sum = 1 + ((List.ofFn k).map cnt).sum
  rw [List.map_ofFn]
  rfl
theorem cnts_cons {t : Tm} {r : List Tm} : cnts (t :: r) = cnt t + cnts r := rfl
theorem cnt_pos : ∀ t : Tm, 1 ≤ cnt t
  | .mk _ _ _ => by rw [cnt_mk]; omega
theorem len_cnts : ∀ ts : List Tm, ts.length ≤ cnts ts
  | [] => Nat.le_refl _
  | t :: r => by
    have h1 := cnt_pos t
    have h2 := len_cnts r
    rw [cnts_cons, List.length_cons]
    omega

section
variable {P : Program} {w : World} {K : PySem.W.Frag} {mg : Str → Option Value} {base : Heap}
theorem same_mut {H H' : Hp} {p : Addr} {o : HO} (e : Same H H') (h : H p = none) : Same H (upd H' p o) := fun a u ha => by
  rw [upd_ne (ne_of_none ha h)]
  exact e _ _ ha
/-- a list rewritten leaves the terms -/
theorem Lay.put {H : Hp} {l : Addr} {xs ys : List V} (hl : H l = some (.lst xs)) {a : Addr} {h : Hd} {us : List V} (q : Lay H a h us) : Lay (upd H l (.lst ys)) a h us := by
  have go : ∀ {b : Addr} {zs : List V}, H b = some (.tup zs) → upd H l (.lst ys) b = some (.tup zs) := fun {b zs} z => by
    rw [upd_ne (ne_of z hl (by intro e; cases e))]
    exact z
  cases h with
  | ask f => obtain ⟨z, p, h1, h2⟩ := q; exact ⟨z, p, go h1, go h2⟩
  | _ => exact ⟨q.1, go q.2⟩
theorem At.put {H : Hp} {l : Addr} {xs ys : List V} (hl : H l = some (.lst xs)) : ∀ {t : Tm} {a : Addr}, At H t a → At (upd H l (.lst ys)) t a := by
  intro t
  induction t with
  | mk h n k ih =>
    rintro a ⟨zs, q, r⟩
    exact ⟨zs, q.put hl, fun i => ih i (r i)⟩
theorem Stk.put {H : Hp} {l : Addr} {xs ys : List V} (hl : H l = some (.lst xs)) : ∀ {vs : List V} {ts : List Tm}, Stk H vs ts → Stk (upd H l (.lst ys)) vs ts
  | [], [], _ => trivial
  | _ :: _, _ :: _, h => ⟨let ⟨b, e1, h1⟩ := h.1; ⟨b, e1, h1.put hl⟩, Stk.put hl h.2⟩
  | [], _ :: _, h => h.elim
  | _ :: _, [], h => h.elim
end
end KB

namespace KB
open PySem L2

/-! ### what leaves the tuples -/
def TK (H H' : Hp) : Prop := ∀ a xs, H a = some (.tup xs) → H' a = some (.tup xs)
theorem TK.refl (H : Hp) : TK H H := fun _ _ h => h
theorem TK.trans {H H1 H2 : Hp} (a : TK H H1) (b : TK H1 H2) : TK H H2 := fun x o h => b x o (a x o h)
theorem tk_same {H H' : Hp} (e : Same H H') : TK H H' := fun a _ h => e a _ h
theorem tk_put {H : Hp} {l : Addr} {xs : List V} {o : HO} (hl : H l = some (.lst xs)) : TK H (upd H l o) := fun a zs z => by
  rw [upd_ne (ne_of z hl (by intro e; cases e))]
  exact z
theorem Lay.tk {H H' : Hp} (e : TK H H') {a : Addr} {h : Hd} {xs : List V} (l : Lay H a h xs) : Lay H' a h xs := by
  cases h with
  | ask f => obtain ⟨z, p, h1, h2⟩ := l; exact ⟨z, p, e _ _ h1, e _ _ h2⟩
  | _ => exact ⟨l.1, e _ _ l.2⟩
theorem At.tk {H H' : Hp} (e : TK H H') : ∀ {t : Tm} {a : Addr}, At H t a → At H' t a := by
  intro t
  induction t with
  | mk h n k ih =>
    rintro a ⟨ys, l, r⟩
    exact ⟨ys, l.tk e, fun i => ih i (r i)⟩

theorem Stk.tk {H H' : Hp} (e : TK H H') : ∀ {vs : List V} {ts : List Tm}, Stk H vs ts → Stk H' vs ts
  | [], [], _ => trivial
  | _ :: _, _ :: _, h => ⟨let ⟨b, e1, h1⟩ := h.1; ⟨b, e1, h1.tk e⟩, Stk.tk e h.2⟩
  | [], _ :: _, h => h.elim
  | _ :: _, [], h => h.elim
theorem Stk.get {H : Hp} : ∀ {vs : List V} {ts : List Tm} {i : Nat} {v : V}, Stk H vs ts → vs[i]? = some v → ∃ t, ts[i]? = some t ∧ ∃ b, v = .ref b ∧ At H t b
  | [], [], _, _, _, e => by simp at e
  | x :: vs, t :: ts, 0, v, h, e => ⟨t, rfl, by
    have e' : x = v := by simpa using e
    subst e'
    exact h.1⟩
  | x :: vs, t :: ts, i + 1, v, h, e => by
    obtain ⟨b, h1, h2⟩ := Stk.get (i := i) (v := v) h.2 (by simpa using e)
    exact ⟨b, by simpa using h1, h2⟩
  | [], _ :: _, _, _, h, _ => h.elim
  | _ :: _, [], _, _, h, _ => h.elim

/-! ### two lists, item by item -/
def All2 {α : Type} (R : α → V → Prop) : List α → List V → Prop
  | [], [] => True
  | a :: as, v :: vs => R a v ∧ All2 R as vs
  | _, _ => False
theorem All2.imp {α : Type} {R S : α → V → Prop} (e : ∀ a v, R a v → S a v) : ∀ {as : List α} {vs : List V}, All2 R as vs → All2 S as vs
  | [], [], _ => trivial
  | _ :: _, _ :: _, h => ⟨e _ _ h.1, All2.imp e h.2⟩
  | [], _ :: _, h => h.elim
  | _ :: _, [], h => h.elim
theorem All2.app {α : Type} {R : α → V → Prop} : ∀ {as bs : List α} {vs ws : List V}, All2 R as vs → All2 R bs ws → All2 R (as ++ bs) (vs ++ ws)
  | [], _, [], _, _, k => k
  | _ :: _, _, _ :: _, _, h, k => ⟨h.1, All2.app h.2 k⟩
  | [], _, _ :: _, _, h, _ => h.elim
  | _ :: _, _, [], _, h, _ => h.elim
theorem All2.len {α : Type} {R : α → V → Prop} : ∀ {as : List α} {vs : List V}, All2 R as vs → vs.length = as.length
  | [], [], _ => rfl
  | _ :: _, _ :: _, h => congrArg (· + 1) (All2.len h.2)
  | [], _ :: _, h => h.elim
  | _ :: _, [], h => h.elim
theorem All2.get {α : Type} {R : α → V → Prop} : ∀ {as : List α} {vs : List V} {i : Nat} {v : V}, All2 R as vs → vs[i]? = some v → ∃ a, as[i]? = some a ∧ R a v
  | [], [], _, _, _, e => by simp at e
  | a :: as, x :: vs, 0, v, h, e => ⟨a, rfl, by
    have e' : x = v := by simpa using e
    subst e'
    exact h.1⟩
  | a :: as, x :: vs, i + 1, v, h, e => by
    obtain ⟨b, h1, h2⟩ := All2.get (i := i) (v := v) h.2 (by simpa using e)
    exact ⟨b, by simpa using h1, h2⟩
  | [], _ :: _, _, _, h, _ => h.elim
  | _ :: _, [], _, _, h, _ => h.elim

end KB

namespace KB
open PySem L2

/-! ### books -/
abbrev Er := Str × List Str × Tm
def ErV (H : Hp) (e : Er) (v : V) : Prop := ∃ q r b, v = .ref q ∧ H q = some (.tup [.str e.1, .ref r, .ref b]) ∧ H r = some (.tup (e.2.1.map V.str)) ∧ At H e.2.2 b
theorem ErV.tk {H H' : Hp} (t : TK H H') {e : Er} {v : V} (h : ErV H e v) : ErV H' e v :=
  let ⟨q, r, b, e1, h1, h2, h3⟩ := h; ⟨q, r, b, e1, t _ _ h1, t _ _ h2, h3.tk t⟩
def BkAt (H : Hp) (es : List Er) (vs : List V) (p : Addr) : Prop := H p = some (.tup vs) ∧ All2 (ErV H) es vs
theorem BkAt.tk {H H' : Hp} (t : TK H H') {es : List Er} {vs : List V} {p : Addr} (h : BkAt H es vs p) : BkAt H' es vs p := ⟨t _ _ h.1, h.2.imp fun _ _ z => z.tk t⟩
theorem All2.map {α β : Type} {R : β → V → Prop} {f : α → β} : ∀ {as : List α} {vs : List V}, All2 (fun a v => R (f a) v) as vs → All2 R (as.map f) vs
  | [], [], _ => trivial
  | _ :: _, _ :: _, h => ⟨h.1, All2.map h.2⟩
  | [], _ :: _, h => h.elim
  | _ :: _, [], h => h.elim

section
variable {P : Program} {w : World} {K : PySem.W.Frag} {mg : Str → Option Value} {base : Heap}
theorem mem_of_get {α : Type} {l : List α} {i : Nat} {a : α} (h : l[i]? = some a) : a ∈ l := List.mem_of_getElem? h
end
end KB

namespace KB
open PySem L2

theorem catA_of {K : PySem.W.Frag} {H : Hp} {a b : Addr} {xs ys : List V} {Q : VK} (ha : H a = some (.tup xs)) (hb : H b = some (.tup ys)) (hl : xs.length + ys.length ≤ 100000)
    (q : ∀ p H', Same H H' → H' p = some (.tup (xs ++ ys)) → Q (.ref p) H') : rCatA K (.ref a) (.ref b) H Q := by
  refine ⟨a, b, xs, ys, rfl, rfl, SqT.of ha, SqT.of hb, sz hl, fun z => ?_, fun _ z => ?_, fun _ _ p hp => ?_⟩
  · refine q b H (Same.refl H) ?_
    rw [z]
    exact hb
  · refine q a H (Same.refl H) ?_
    rw [z, List.append_nil]
    exact ha
  · exact q p _ (same_new hp _) upd_same
theorem cnt_mem {t : Tm} {ts : List Tm} (h : t ∈ ts) : cnt t ≤ cnts ts := by
  induction ts with
  | nil => cases h
  | cons a r ih =>
    rw [cnts_cons]
    rcases List.mem_cons.mp h with z | z
    · subst z
      omega
    · have := ih z
      omega
theorem cnts_take (ts : List Tm) (i : Nat) : cnts (ts.take i) ≤ cnts ts := by
  have e : cnts ts = cnts (ts.take i) + cnts (ts.drop i) := by rw [← cnts_app, List.take_append_drop]
  omega
def letsL (ts : List Tm) : List Str := (ts.map letsOf).flatten
def hdLets : Hd → List Str
  | .lett x => [x]
  | _ => []
theorem hdLets_le (h : Hd) : (hdLets h).length ≤ 1 := by
  cases h with
  | lett x => exact Nat.le_refl 1
  | _ => exact Nat.zero_le 1
theorem lets_mk {h : Hd} {n : Nat} {k : _root_.Fin n → Tm} : letsOf (.mk h n k) = hdLets h ++ letsL (List.ofFn k) := by
  have e : (List.ofFn fun i => letsOf (k i)) = (List.ofFn k).map letsOf := (List.map_ofFn ..).symm
  unfold letsL
  rw [← e]
  cases h <;> rfl
theorem lets_len : ∀ t : Tm, (letsOf t).length ≤ cnt t := by
  have go : ∀ ts : List Tm, (∀ t ∈ ts, (letsOf t).length ≤ cnt t) → (letsL ts).length ≤ cnts ts := by
    intro ts
    induction ts with
    | nil => intro _; exact Nat.le_refl _
    | cons a r ih =>
      intro h
      have h1 := h a List.mem_cons_self
      have h2 := ih fun u hu => h u (List.mem_cons_of_mem _ hu)
      have e : letsL (a :: r) = letsOf a ++ letsL r := by
        unfold letsL
        rw [List.map_cons, List.flatten_cons]
      rw [e, List.length_append, cnts_cons]
      omega
  intro t
  induction t with
  | mk h n k ih =>
    have := go (List.ofFn k) fun t ht => by
      obtain ⟨i, rfl⟩ := List.mem_ofFn.mp ht
      exact ih i
    rw [lets_mk, cnt_mk, List.length_append]
    have : (hdLets h).length ≤ 1 := hdLets_le h
    omega
theorem letsL_take {ts : List Tm} {i : Nat} {t : Tm} (h : ts[i]? = some t) : letsL (ts.take (i + 1)) = letsL (ts.take i) ++ letsOf t := by
  obtain ⟨hi, he⟩ := List.getElem?_eq_some_iff.mp h
  unfold letsL
  rw [List.take_succ_eq_append_getElem hi, List.map_append, List.flatten_append, he]
  simp

end KB

namespace KB
open PySem L2

/-! ### words as the program has them -/
def keptW : List Str := ["let", "be", "in", "tell", "if", "then", "else", "home", "zyzzyva", "zzzzq"]
def small (c : Nat) : Bool := decide (97 ≤ c) && decide (c ≤ 122)
def isW (z : Str) : Bool := !keptW.contains z && (decide (1 ≤ z.length) && decide (z.length ≤ 8)) && z.cps.toList.all small
theorem isW_ok {z : Str} (h : isW z = true) : PySem.PyData.strOk z = true := by
  unfold isW at h
  rw [Bool.and_eq_true] at h
  have h2 := h.2
  rw [List.all_eq_true] at h2
  unfold PySem.PyData.strOk
  rw [← Array.all_toList, List.all_eq_true]
  intro c hc
  have := h2 c hc
  unfold small at this
  rw [Bool.and_eq_true] at this
  have := of_decide_eq_true this.2
  exact decide_eq_true (by omega)
theorem isW_len {z : Str} (h : isW z = true) : z.length ≤ 8 := by
  unfold isW at h
  rw [Bool.and_eq_true, Bool.and_eq_true, Bool.and_eq_true] at h
  exact of_decide_eq_true h.1.2.2
/-! ### the tape and lists of words -/
def But1 (tp : Addr) (H H' : Hp) : Prop := ∀ b o, b ≠ tp → H b = some o → H' b = some o
def Tp (H : Hp) (tp : Addr) : Prop := ∃ z, H tp = some (.lst [.int z])
theorem But1.refl (tp : Addr) (H : Hp) : But1 tp H H := fun _ _ _ h => h
theorem But1.trans {tp : Addr} {H H1 H2 : Hp} (a : But1 tp H H1) (b : But1 tp H1 H2) : But1 tp H H2 := fun x o n h => b x o n (a x o n h)
theorem but_same {tp : Addr} {H H' : Hp} (e : Same H H') : But1 tp H H' := fun b o _ h => e b o h
theorem But1.tk {tp : Addr} {H H' : Hp} (ht : Tp H tp) (e : But1 tp H H') : TK H H' := fun a xs h => by
  obtain ⟨z, hz⟩ := ht
  exact e a _ (ne_of h hz (by intro q; cases q)) h
/-- a list of words -/
def Wls (H : Hp) (a : Addr) (xs : List Str) : Prop := H a = some (.lst (xs.map V.str)) ∧ ∀ x ∈ xs, isW x = true
theorem wls_tp {H : Hp} {a tp : Addr} {xs : List Str} (h : H a = some (.lst (xs.map V.str))) (t : Tp H tp) : a ≠ tp := by
  rintro rfl
  obtain ⟨z, hz⟩ := t
  rw [h] at hz
  have e := HO.lst.inj (Option.some.inj hz)
  cases xs with
  | nil => cases e
  | cons x r =>
    rw [List.map_cons] at e
    cases (List.cons.inj e).1
theorem Wls.but {tp a : Addr} {H H' : Hp} {xs : List Str} (e : But1 tp H H') (t : Tp H tp) (h : Wls H a xs) : Wls H' a xs := ⟨e _ _ (wls_tp h.1 t) h.1, h.2⟩
theorem dp_strs {K : PySem.W.Frag} {H : Hp} : ∀ xs : List Str, DpAll K H (xs.map V.str) (xs.map PyData.str)
  | [] => .nil
  | x :: r => .cons (.str x) (dp_strs r)
theorem lay_strs : ∀ {xs : List Str}, (∀ x ∈ xs, PySem.PyData.strOk x = true) → PySem.PyData.canLayAll0 (xs.map PyData.str) = true
  | [], _ => rfl
  | x :: r, h => by
    show (PySem.PyData.strOk x && PySem.PyData.canLayAll0 (r.map PyData.str)) = true
    rw [h x List.mem_cons_self, lay_strs fun y hy => h y (List.mem_cons_of_mem _ hy)]
    rfl
theorem shaped_of {d : PyData} (h1 : d.canLay0 = true) (h2 : d.depth ≤ 64) : SeqAt.shaped d = true := Bool.and_eq_true_iff.mpr ⟨h1, decide_eq_true h2⟩
theorem depth_strs : ∀ xs : List Str, PySem.PyData.depthAll (xs.map PyData.str) = 0
  | [] => rfl
  | x :: r => by
    show max (PySem.PyData.depth (.str x)) (PySem.PyData.depthAll (r.map PyData.str)) = 0
    rw [depth_strs r]
    rfl
theorem shaped_strs {xs : List Str} (h : ∀ x ∈ xs, isW x = true) : SeqAt.shaped (.list (xs.map PyData.str)) = true := by
  refine shaped_of (lay_strs fun x hx => isW_ok (h x hx)) ?_
  show PySem.PyData.depthAll (xs.map PyData.str) + 1 ≤ 64
  rw [depth_strs]
  decide
theorem eqv_nil (xs : List Str) : PyData.eqv (.list (xs.map PyData.str)) (.list []) = xs.isEmpty := by
  cases xs <;> rfl

section
variable {P : Program} {w : World} {K : PySem.W.Frag} {mg : Str → Option Value} {base : Heap}
/-! ### _law_cell_at -/
def spCell (K : PySem.W.Frag) : Sp := fun vs H Q _ => ∃ (a : Addr) (ns : List Int) (k : Int), vs = [.ref a, .int k] ∧ SqL K H a (ns.map V.int) ∧ 0 ≤ k ∧ ∀ z, Q (.int z) H
abbrev s_law_cell_at : Stmt := top 22
theorem scLcell_at : FnScope ["script", "k"] ["script", "k"] (defScope s_law_cell_at) := ⟨rfl, rfl, rfl, by decide +kernel, rfl, by decide +kernel, by decide +kernel⟩
theorem ok_cell (T : Txt K mg) {f : Addr} {fd : FuncData} (F : Fun K "_law_cell_at" "_law_cell_at" s_law_cell_at f fd) : FnOk P w K mg base CX0 1 f fd ["script", "k"] (spCell K) := by
  refine F.ok scLcell_at (fun vs H Q E h => ?_) (fun cdv A outer s H vs Q E hr h => ?_)
  · obtain ⟨a, ns, k, rfl, _⟩ := h
    rfl
  obtain ⟨a, ns, k, rfl, hS, h0, q⟩ := h
  refine ⟨_, (pss_cons (ps_if (pt_cmpR op_lt (pv 1) (pe_callB call_len_seq (by rfl) T.m_len PySem.boot_len (pa_cons (pv 0) pa_nil)) (nomark _)) (pss_one (ps_ret (pe_ix ix_list (pv 0) (pv 1) (fun _ _ => rfl)))) pss_nil)
    (pss_one (ps_ret pe_int))), ?_⟩
  refine ⟨_, rfl, _, rfl, a, _, rfl, .inl hS, _, _, rfl, rfl, _, rfl, ?_⟩
  refine ite2 (fun c => ?_) (fun c => ?_)
  · have c' : k < (((ns.map V.int).length : Nat) : Int) := of_decide_eq_true c
    rw [List.length_map] at c'
    have hk : k.toNat < ns.length := by omega
    refine ⟨_, rfl, _, rfl, a, _, _, .int ns[k.toNat], rfl, rfl, hS, at_of (j := k.toNat) (by omega) ?_, q _⟩
    rw [List.getElem?_map, List.getElem?_eq_getElem hk]
    rfl
  · exact q 0
/-! ### _law_tape -/
def spTape (K : PySem.W.Frag) : Sp := fun vs H Q _ => ∃ (a : Addr) (ns : List Int) (k : Int), vs = [.ref a, .int k] ∧ SqL K H a (ns.map V.int) ∧ 0 ≤ k ∧ k ≤ 1000 ∧ ∀ p z, H p = none → Q (.ref p) (upd H p (.lst [.int z]))
abbrev s_law_tape : Stmt := top 23
theorem scLtape : FnScope ["script", "k", "cell", "p", "one", "found", "turn"] ["script", "k"] (defScope s_law_tape) := ⟨rfl, rfl, rfl, by decide +kernel, rfl, by decide +kernel, by decide +kernel⟩
theorem ok_tape (T : Txt K mg) {f g : Addr} {fd gd : FuncData} (F : Fun K "_law_tape" "_law_tape" s_law_tape f fd) (G_law_cell_at : FnOk P w K mg base CX0 1 g gd ["script", "k"] (spCell K)) (R_law_cell_at : Ref K mg "_law_cell_at" g gd ["script", "k"]) : FnOk P w K mg base CX0 2 f fd ["script", "k"] (spTape K) := by
  refine F.ok scLtape (fun vs H Q E h => ?_) (fun cdv A outer s H vs Q E hr h => ?_)
  · obtain ⟨a, ns, k, rfl, _⟩ := h
    rfl
  obtain ⟨a, ns, k, rfl, hS, h0, h1, q⟩ := h
  refine ⟨_, (pss_cons (ps_set (i := 2) scLtape.nd rfl (Or.inl rfl) (pe_call G_law_cell_at hr rfl R_law_cell_at.m R_law_cell_at.k R_law_cell_at.b .nil pass0 (pa_cons (pv 0) (pa_cons (pv 1) pa_nil))))
    (pss_cons (ps_if (pt_cmpR op_eq (pv 2) pe_int (nomark _)) (pss_one (ps_ret (pe_lst (pa_cons pe_int pa_nil)))) pss_nil)
    (pss_cons (ps_if (pt_cmpR op_ge (pv 2) (pe_op op_pow pe_int pe_int) (nomark _)) (pss_one (ps_ret (pe_lst (pa_cons (pe_op op_sub (pv 2) (pe_op op_pow pe_int pe_int)) pa_nil)))) pss_nil)
    (pss_cons (ps_set (i := 3) scLtape.nd rfl (Or.inl rfl) pe_int)
    (pss_cons (ps_set (i := 4) scLtape.nd rfl (Or.inl rfl) (pe_op op_mod (pe_op op_add (pe_op op_add (pe_op op_mul (pv 2) pe_int) (pe_op op_mul pe_int (pv 1))) pe_int) (pv 3)))
    (pss_cons (ps_set (i := 5) scLtape.nd rfl (Or.inl rfl) (pv 4))
    (pss_cons (ps_for PassesOwn.never rfl (pi_range1 rfl T.m_range (pa_cons pe_int pa_nil)) (pg_name (i := 6) scLtape.nd rfl (Or.inl rfl)) (pss_cons (ps_set (i := 4) scLtape.nd rfl (Or.inl rfl) (pe_op op_mod (pe_op op_add (pe_op op_add (pe_op op_add (pe_op op_mul (pv 4) (pv 4)) (pe_op op_mul pe_int (pv 6))) (pv 2)) pe_int) (pv 3)))
    (pss_one (ps_set (i := 5) scLtape.nd rfl (Or.inl rfl) (pe_op op_add (pe_op op_mul (pv 5) (pv 3)) (pv 4))))))
    (pss_one (ps_ret (pe_lst (pa_cons (pv 5) pa_nil))))))))))), ?_⟩
  have b1 : ∀ x : Int, 0 ≤ x → x < 2305843009213693951 → -(2 ^ 64) < x ∧ x < 2 ^ 64 := fun x h1 h2 => by
    have e : (2 : Int) ^ 64 = 18446744073709551616 := by decide
    rw [e]
    omega
  refine ⟨_, rfl, _, rfl, a, ns, k, rfl, hS, h0, fun z => ?_⟩
  refine ⟨_, rfl, rfl, _, rfl, ?_⟩
  refine ite2 (fun c => ?_) (fun c => ?_)
  · exact ⟨sz (by show 1 ≤ 100000; decide), fun p hp => q p 0 hp⟩
  refine ⟨_, rfl, _, _, rfl, rfl, ⟨by decide, by decide, by decide⟩, _, _, rfl, rfl, _, rfl, ?_⟩
  refine ite2 (fun c => ?_) (fun c => ?_)
  · exact ⟨_, rfl, _, _, rfl, rfl, ⟨by decide, by decide, by decide⟩, _, _, rfl, rfl, sz (by show 1 ≤ 100000; decide), fun p hp => q p _ hp⟩
  refine ⟨_, rfl, _, _, rfl, rfl, .inr ⟨by decide, by decide⟩, _, rfl, _, _, rfl, rfl, .inl ⟨by decide, by decide⟩, _, _, rfl, rfl, _, _, rfl, rfl, _, rfl, _, _, rfl, rfl, (by show (0 : Int) < 2305843009213693951; decide), ?_⟩
  refine ⟨_, rfl, ?_⟩
  refine ⟨20, rfl, by decide, by decide, for_range (lo := 0) (n := 20) (fun i σ H' => ∃ one found o, σ = [some (.ref a), some (.int k), some (.int z), some (.int 2305843009213693951), some (.int one), some (.int found), o] ∧ H' = H ∧ 0 ≤ one ∧ one < 2305843009213693951) ?_ ?_ ?_⟩
  · exact ⟨_, _, _, rfl, rfl, Int.emod_nonneg _ (by decide), Int.emod_lt_of_pos _ (by decide)⟩
  · rintro i σ H' hi ⟨one, found, o, rfl, rfl, g0, g1⟩
    refine ⟨_, rfl, _, rfl, _, _, rfl, rfl, .inl (b1 one g0 g1), _, rfl, _, _, rfl, rfl, .inl ⟨by decide, by decide⟩, _, _, rfl, rfl, _, rfl, _, _, rfl, rfl, _, _, rfl, rfl, _, rfl, _, _, rfl, rfl, (by show (0 : Int) < 2305843009213693951; decide), ?_⟩
    refine ⟨_, rfl, _, rfl, _, _, rfl, rfl, .inr ⟨by decide, by decide⟩, _, rfl, _, _, rfl, rfl, ?_⟩
    exact ⟨_, _, _, rfl, rfl, Int.emod_nonneg _ (by decide), Int.emod_lt_of_pos _ (by decide)⟩
  · rintro σ H' ⟨one, found, o, rfl, rfl, g0, g1⟩
    exact ⟨_, rfl, sz (by show 1 ≤ 100000; decide), fun p hp => q p _ hp⟩
/-! ### _law_digit -/
def spDig : Sp := fun vs H Q _ => ∃ (tp : Addr) (many : Int), vs = [.ref tp, .int many] ∧ Tp H tp ∧ 0 < many ∧ many ≤ 100000000000000000000000000000000000000000000000000000000000 ∧ ∀ r H', 0 ≤ r → r < many → But1 tp H H' → Tp H' tp → Q (.int r) H'
theorem log_many {m : Int} (h0 : 0 < m) (h1 : m ≤ 100000000000000000000000000000000000000000000000000000000000) : m.natAbs.log2 < 9000 := by
  refine PySem.Flt.log2_lt_of (by decide) (Nat.lt_of_le_of_lt (m := 100000000000000000000000000000000000000000000000000000000000) (by omega) ?_)
  exact Nat.lt_of_lt_of_le (m := 2 ^ 200) (by decide) (Nat.pow_le_pow_right (by decide) (by decide))
abbrev s_law_digit : Stmt := top 24
theorem scLdigit : FnScope ["tape", "many", "found"] ["tape", "many"] (defScope s_law_digit) := ⟨rfl, rfl, rfl, by decide +kernel, rfl, by decide +kernel, by decide +kernel⟩
theorem ok_dig {f : Addr} {fd : FuncData} (F : Fun K "_law_digit" "_law_digit" s_law_digit f fd) : FnOk P w K mg base CX0 1 f fd ["tape", "many"] spDig := by
  refine F.ok scLdigit (fun vs H Q E h => ?_) (fun cdv A outer s H vs Q E hr h => ?_)
  · obtain ⟨tp, many, rfl, _⟩ := h
    rfl
  obtain ⟨tp, many, rfl, ⟨z, hz⟩, h0, h1, q⟩ := h
  refine ⟨_, (pss_cons (ps_set (i := 2) scLdigit.nd rfl (Or.inl rfl) (pe_op op_mod (pe_ix ix_list (pv 0) pe_int (fun _ _ => rfl)) (pv 1)))
    (pss_cons (ps_asg (pe_op op_fdivW (pe_ix ix_list (pv 0) pe_int (fun _ _ => rfl)) (pv 1)) (pg_sub (pv 0) pe_int set_list))
    (pss_one (ps_ret (pv 2))))), ?_⟩
  refine ⟨_, rfl, tp, _, _, _, rfl, rfl, SqL.of hz, at0, _, rfl, _, _, rfl, rfl, h0, ?_⟩
  refine ⟨_, rfl, tp, _, _, _, rfl, rfl, SqL.of hz, at0, _, rfl, _, _, rfl, rfl, ⟨h0, log_many h0 h1⟩, ?_⟩
  refine ⟨_, rfl, tp, _, _, 0, rfl, rfl, hz, rfl, ?_⟩
  refine ⟨_, rfl, q _ _ (Int.emod_nonneg _ (by omega)) (Int.emod_lt_of_pos _ h0) (fun b o n h => ?_) ⟨_, upd_same⟩⟩
  rw [upd_ne n]
  exact h
/-! ### _law_number -/
def spNum : Sp := fun vs H Q _ => ∃ (tp : Addr), vs = [.ref tp] ∧ Tp H tp ∧ ∀ r H', But1 tp H H' → Tp H' tp → 0 ≤ r → r < 1000 → Q (.int r) H'
abbrev s_law_number : Stmt := top 26
theorem scLnumber : FnScope ["tape", "way"] ["tape"] (defScope s_law_number) := ⟨rfl, rfl, rfl, by decide +kernel, rfl, by decide +kernel, by decide +kernel⟩
theorem at_some {xs : List V} {i : Int} (h0 : 0 ≤ i) (h1 : i < (xs.length : Int)) : ∃ v, atI xs i = some v ∧ v ∈ xs := by
  have h : i.toNat < xs.length := by omega
  exact ⟨xs[i.toNat], at_of (j := i.toNat) (by omega) (List.getElem?_eq_getElem h), List.getElem_mem h⟩
theorem ok_num {f g : Addr} {fd gd : FuncData} (F : Fun K "_law_number" "_law_number" s_law_number f fd) (G_law_digit : FnOk P w K mg base CX0 1 g gd ["tape", "many"] spDig) (R_law_digit : Ref K mg "_law_digit" g gd ["tape", "many"]) : FnOk P w K mg base CX0 2 f fd ["tape"] spNum := by
  refine F.ok scLnumber (fun vs H Q E h => ?_) (fun cdv A outer s H vs Q E hr h => ?_)
  · obtain ⟨tp, rfl, _⟩ := h
    rfl
  obtain ⟨tp, rfl, ht, q⟩ := h
  refine ⟨_, (pss_cons (ps_set (i := 1) scLnumber.nd rfl (Or.inl rfl) (pe_call G_law_digit hr rfl R_law_digit.m R_law_digit.k R_law_digit.b .nil pass0 (pa_cons (pv 0) (pa_cons pe_int pa_nil))))
    (pss_cons (ps_if (pt_cmpR op_eq (pv 1) pe_int (nomark _)) (pss_one (ps_ret (pe_call G_law_digit hr rfl R_law_digit.m R_law_digit.k R_law_digit.b .nil pass0 (pa_cons (pv 0) (pa_cons pe_int pa_nil))))) pss_nil)
    (pss_one (ps_ret (pe_ix ix_list (pe_lst (pa_cons pe_int (pa_cons pe_int (pa_cons pe_int (pa_cons pe_int (pa_cons pe_int pa_nil)))))) (pv 1) (fun _ _ => rfl)))))), ?_⟩
  refine ⟨_, rfl, tp, 6, rfl, ht, by decide, by decide, fun r H1 r0 r1 k1 t1 => ?_⟩
  refine ⟨_, rfl, rfl, _, rfl, ?_⟩
  refine ite2 (fun c => ?_) (fun c => ?_)
  · exact ⟨_, rfl, tp, 1000, rfl, t1, by decide, by decide, fun r2 H2 z0 z1 k2 t2 => q r2 H2 (k1.trans k2) t2 z0 z1⟩
  · have c' : r ≠ 5 := fun z => c (decide_eq_true (congrArg V.int z))
    refine ⟨sz (by show 5 ≤ 100000; decide), fun p hp => ?_⟩
    have np : tp ≠ p := by
      obtain ⟨z, hz⟩ := t1
      exact ne_of_none hz hp
    obtain ⟨v, hv, hm⟩ := at_some (xs := [V.int 0, .int 1, .int 1, .int 2, .int 3]) (i := r) r0 (by show r < 5; omega)
    have hi : ∃ n : Int, v = V.int n ∧ 0 ≤ n ∧ n < 1000 := by
      simp only [List.mem_cons, List.not_mem_nil, or_false] at hm
      rcases hm with z | z | z | z | z <;> exact ⟨_, z, by decide, by decide⟩
    obtain ⟨n, rfl, z0, z1⟩ := hi
    refine ⟨_, rfl, p, _, _, _, rfl, rfl, SqL.of upd_same, hv, ?_⟩
    refine q n _ (k1.trans (but_same (same_new hp _))) ?_ z0 z1
    obtain ⟨z, hz⟩ := t1
    exact ⟨z, same_new hp _ _ _ hz⟩
end
end KB

namespace KB
open PySem L2

/-! ### good terms -/
def okH : Hd → Prop
  | .nam x | .lett x | .ask x => isW x = true
  | .num z => 0 ≤ z ∧ z < 1000
  | _ => True
def okT : Tm → Prop
  | .mk h _ k => okH h ∧ ∀ i, okT (k i)
def HtLe : Nat → Tm → Prop
  | 0, _ => False
  | n + 1, .mk _ _ k => ∀ i, HtLe n (k i)
theorem HtLe.up : ∀ {n : Nat} {t : Tm}, HtLe n t → HtLe (n + 1) t
  | 0, _, h => h.elim
  | n + 1, .mk _ _ _, h => fun i => HtLe.up (n := n) (h i)
theorem HtLe.le {n m : Nat} {t : Tm} (h : HtLe n t) (e : n ≤ m) : HtLe m t := by
  induction e with
  | refl => exact h
  | step _ ih => exact ih.up
/-- each name within its word's reach, each ask with as many terms as hd says -/
def okN (hd : Str → Option Nat) : Hd → Nat → List Str → Prop
  | .nam x, _, xs => x ∈ xs
  | .ask f, n, _ => hd f = some n
  | _, _, _ => True
def inn : Hd → Nat → List Str → List Str
  | .lett x, 1, xs => xs ++ [x]
  | _, _, xs => xs
def okS (hd : Str → Option Nat) : Tm → List Str → Prop
  | .mk h n k, xs => okN hd h n xs ∧ ∀ i, okS hd (k i) (inn h i.val xs)
def mkL (h : Hd) (ts : List Tm) : Tm := .mk h ts.length fun i => ts.get i
theorem ofFn_get (ts : List Tm) : List.ofFn (fun i => ts.get i) = ts := by
  refine List.ext_getElem (by simp) fun i h1 h2 => ?_
  simp
theorem cnt_mkL {h : Hd} {ts : List Tm} : cnt (mkL h ts) = 1 + cnts ts := by
  unfold mkL
  rw [cnt_mk, ofFn_get]
theorem ok_mkL {h : Hd} {ts : List Tm} (a : okH h) (b : ∀ t ∈ ts, okT t) : okT (mkL h ts) := ⟨a, fun i => b _ (List.get_mem ts i)⟩
theorem ht_mkL {n : Nat} {h : Hd} {ts : List Tm} (b : ∀ t ∈ ts, HtLe n t) : HtLe (n + 1) (mkL h ts) := fun i => b _ (List.get_mem ts i)
theorem sc_mkL {hd : Str → Option Nat} {h : Hd} {ts : List Tm} {xs : List Str} (a : okN hd h ts.length xs) (b : ∀ i t, ts[i]? = some t → okS hd t (inn h i xs)) : okS hd (mkL h ts) xs :=
  ⟨a, fun i => b i.val _ (by rw [List.getElem?_eq_getElem i.isLt]; rfl)⟩
theorem lt_mkL {h : Hd} {ts : List Tm} : letsOf (mkL h ts) = hdLets h ++ letsL ts := by
  unfold mkL
  rw [lets_mk, ofFn_get]
theorem letsL_app (a b : List Tm) : letsL (a ++ b) = letsL a ++ letsL b := by
  unfold letsL
  rw [List.map_append, List.flatten_append]
theorem letsL_cons (t : Tm) (r : List Tm) : letsL (t :: r) = letsOf t ++ letsL r := by
  unfold letsL
  rw [List.map_cons, List.flatten_cons]
theorem stk_fn {H : Hp} : ∀ {vs : List V} {ts : List Tm}, Stk H vs ts → ∃ ys : _root_.Fin ts.length → Addr, Rfs ys = vs ∧ ∀ i, At H (ts.get i) (ys i)
  | [], [], _ => ⟨fun i => i.elim0, rfl, fun i => i.elim0⟩
  | v :: vs, t :: ts, h => by
    obtain ⟨⟨b, e, hb⟩, hr⟩ := h
    subst e
    obtain ⟨ys, e1, e2⟩ := stk_fn hr
    refine ⟨fun i => match i with | ⟨0, _⟩ => b | ⟨j + 1, hj⟩ => ys ⟨j, Nat.lt_of_succ_lt_succ hj⟩, ?_, ?_⟩
    · unfold Rfs
      show List.ofFn (n := ts.length + 1) _ = _
      rw [List.ofFn_succ, ← e1]
      rfl
    · rintro ⟨j, hj⟩
      cases j with
      | zero => exact hb
      | succ j => exact e2 ⟨j, Nat.lt_of_succ_lt_succ hj⟩
  | [], _ :: _, h => h.elim
  | _ :: _, [], h => h.elim
theorem at_mkL {H : Hp} {a : Addr} {h : Hd} {vs : List V} {ts : List Tm} (l : Lay H a h vs) (s : Stk H vs ts) : At H (mkL h ts) a := by
  obtain ⟨ys, e1, e2⟩ := stk_fn s
  refine ⟨ys, ?_, e2⟩
  rw [e1]
  exact l
/-- a new good term at a, of at most n terms, within at most d -/
structure Gd (H : Hp) (a : Addr) (n d : Nat) (hd : Str → Option Nat) (xs ls : List Str) (t : Tm) : Prop where
  at_ : At H t a
  ok : okT t
  cn : cnt t ≤ n
  dp : HtLe d t
  sc : okS hd t xs
  lt : letsOf t = ls
theorem Gd.tk {H H' : Hp} {a : Addr} {n d : Nat} {hd : Str → Option Nat} {xs ls : List Str} {t : Tm} (e : TK H H') (g : Gd H a n d hd xs ls t) : Gd H' a n d hd xs ls t := ⟨g.at_.tk e, g.ok, g.cn, g.dp, g.sc, g.lt⟩
theorem Gd.le {H : Hp} {a : Addr} {n d m e : Nat} {hd : Str → Option Nat} {xs ls : List Str} {t : Tm} (g : Gd H a n d hd xs ls t) (h1 : n ≤ m) (h2 : d ≤ e) : Gd H a m e hd xs ls t := ⟨g.at_, g.ok, Nat.le_trans g.cn h1, g.dp.le h2, g.sc, g.lt⟩
theorem gd_num {H : Hp} {a : Addr} {z : Int} {hd : Str → Option Nat} {xs : List Str} (l : Lay H a (.num z) []) (o : 0 ≤ z ∧ z < 1000) : Gd H a 1 1 hd xs [] (mkL (.num z) []) :=
  ⟨at_mkL l trivial, ok_mkL o (fun _ z => nomatch z), (by rw [cnt_mkL]; exact Nat.le_refl 1), ht_mkL (n := 0) (fun _ z => nomatch z), sc_mkL trivial (fun _ _ z => by simp at z), lt_mkL⟩
theorem gd_nam {H : Hp} {a : Addr} {x : Str} {hd : Str → Option Nat} {xs : List Str} (l : Lay H a (.nam x) []) (o : isW x = true) (m : x ∈ xs) : Gd H a 1 1 hd xs [] (mkL (.nam x) []) :=
  ⟨at_mkL l trivial, ok_mkL o (fun _ z => nomatch z), (by rw [cnt_mkL]; exact Nat.le_refl 1), ht_mkL (n := 0) (fun _ z => nomatch z), sc_mkL m (fun _ _ z => by simp at z), lt_mkL⟩

section
variable {P : Program} {w : World} {K : PySem.W.Frag} {mg : Str → Option Value} {base : Heap}
/-! ### _law_leaf -/
def spLeaf : Sp := fun vs H Q _ => ∃ (tp : Addr) (kv : V) (ar : Addr) (xs : List Str), vs = [.ref tp, kv, .ref ar] ∧ Tp H tp ∧ Wls H ar xs ∧ xs.length ≤ 1000 ∧ ∀ a t H', But1 tp H H' → Tp H' tp → (∀ hd, Gd H' a 1 1 hd xs [] t) → Q (.ref a) H'
abbrev s_law_leaf : Stmt := top 27
theorem scLleaf : FnScope ["tape", "known", "around"] ["tape", "known", "around"] (defScope s_law_leaf) := ⟨rfl, rfl, rfl, by decide +kernel, rfl, by decide +kernel, by decide +kernel⟩
theorem Tp.same {H H' : Hp} {tp : Addr} (e : Same H H') (t : Tp H tp) : Tp H' tp := let ⟨z, h⟩ := t; ⟨z, e _ _ h⟩
theorem ok_leaf (T : Txt K mg) {f g h : Addr} {fd gd hd : FuncData} (F : Fun K "_law_leaf" "_law_leaf" s_law_leaf f fd) (G_law_digit : FnOk P w K mg base CX0 1 g gd ["tape", "many"] spDig) (R_law_digit : Ref K mg "_law_digit" g gd ["tape", "many"])
    (G_law_number : FnOk P w K mg base CX0 2 h hd ["tape"] spNum) (R_law_number : Ref K mg "_law_number" h hd ["tape"]) : FnOk P w K mg base CX0 3 f fd ["tape", "known", "around"] spLeaf := by
  refine F.ok scLleaf (fun vs H Q E h => ?_) (fun cdv A outer s H vs Q E hr h => ?_)
  · obtain ⟨tp, kv, ar, xs, rfl, _⟩ := h
    rfl
  obtain ⟨tp, kv, ar, xs, rfl, ht, hw, hl, q⟩ := h
  refine ⟨_, (pss_cons (ps_if (PW.pt (pw_and (pt_cmpR (op_neD hr.units) (pv 2) (pe_lst pa_nil) (nomark _)) (pw_and1 (pt_cmpR op_gt (pe_call G_law_digit (hr.mono (by omega)) rfl R_law_digit.m R_law_digit.k R_law_digit.b .nil pass0 (pa_cons (pv 0) (pa_cons pe_int pa_nil))) pe_int (nomark _))))) (pss_one (ps_ret (pe_tup (pa_cons pe_str (pa_cons (pe_ix ix_list (pv 2) (pe_call G_law_digit (hr.mono (by omega)) rfl R_law_digit.m R_law_digit.k R_law_digit.b .nil pass0 (pa_cons (pv 0) (pa_cons (pe_callB call_len_seq (by rfl) T.m_len PySem.boot_len (pa_cons (pv 2) pa_nil)) pa_nil))) (fun _ _ => rfl)) pa_nil))))) pss_nil)
    (pss_one (ps_ret (pe_tup (pa_cons pe_str (pa_cons (pe_call G_law_number hr rfl R_law_number.m R_law_number.k R_law_number.b .nil pass0 (pa_cons (pv 0) pa_nil)) pa_nil)))))), ?_⟩
  have numW : ∀ H1, But1 tp H H1 → Tp H1 tp → (tRet (tTup (tCons (tC (.str "number")) (tCons (tCall spNum [] E0 (tCons (tVar 0) tNil)) tNil)))) { nx := fun x H' => Q V.non H', rt := Q } [some (.ref tp), some kv, some (.ref ar)] H1 := by
    intro H1 k1 t1
    refine ⟨_, rfl, tp, rfl, t1, fun r H2 k2 t2 r0 r1 => ⟨sz (by show 2 ≤ 100000; decide), fun p hp => ?_⟩⟩
    have s := same_new hp (.tup [.str "number", .int r])
    exact q p (mkL (.num r) []) _ ((k1.trans k2).trans (but_same s)) (t2.same s) (fun _ => gd_num ⟨rfl, upd_same⟩ ⟨r0, r1⟩)
  refine ⟨_, rfl, sz (by show 0 ≤ 100000; decide), fun p0 hp0 => ?_⟩
  have s0 := same_new hp0 (.lst [])
  refine ⟨.list (xs.map PyData.str), .list [], .lst (SqL.of (s0 _ _ hw.1)) (dp_strs xs), .lst (SqL.of upd_same) .nil, shaped_strs hw.2, rfl, _, rfl, ?_⟩
  rw [eqv_nil]
  cases xs with
  | nil => exact iteF (numW _ (but_same s0) (ht.same s0))
  | cons x0 xr =>
    refine iteT ⟨_, rfl, tp, 3, rfl, ht.same s0, by decide, by decide, fun r H1 r0 r1 k1 t1 => ?_⟩
    have k01 := (but_same s0).trans k1
    refine ⟨_, _, rfl, rfl, _, rfl, ?_⟩
    refine ite2 (fun c => ?_) (fun c => ?_)
    · have w1 := hw.but k01 ht
      refine ⟨_, rfl, _, rfl, _, rfl, ar, _, rfl, .inl (SqL.of w1.1), tp, _, rfl, t1, ?_, ?_, fun r2 H2 r3 r4 k2 t2 => ?_⟩
      · show (0 : Int) < (((x0 :: xr).map V.str).length : Nat)
        rw [List.length_map, List.length_cons]
        omega
      · rw [List.length_map]
        omega
      have w2 := w1.but k2 t1
      obtain ⟨v, hv, hm⟩ := at_some r3 r4
      obtain ⟨z, hz, rfl⟩ := List.mem_map.mp hm
      refine ⟨ar, _, _, _, rfl, rfl, SqL.of w2.1, hv, sz (by show 2 ≤ 100000; decide), fun p hp => ?_⟩
      have s := same_new hp (.tup [.str "name", .str z])
      exact q p (mkL (.nam z) []) _ ((k01.trans k2).trans (but_same s)) (t2.same s) (fun _ => gd_nam ⟨rfl, upd_same⟩ (hw.2 z hz) hz)
    · exact numW _ k01 t1
/-! ### _law_less_one -/
theorem simple_mkL {h : Hd} {ts : List Tm} (a : flatHd h = true) (b : ∀ t ∈ ts, simple t = true) : simple (mkL h ts) = true := by
  unfold mkL simple
  rw [a, Bool.true_and, List.all_eq_true]
  intro x hx
  obtain ⟨i, rfl⟩ := List.mem_ofFn.mp hx
  exact b _ (List.get_mem ts i)
def spLess : Sp := fun vs H Q _ => ∃ (ar : Addr) (xs : List Str), vs = [.ref ar] ∧ Wls H ar xs ∧ ∀ a t H', Same H H' → (∀ hd, Gd H' a 3 2 hd xs [] t) → simple t = true → Q (.ref a) H'
abbrev s_law_less_one : Stmt := top 28
theorem scLless_one : FnScope ["around"] ["around"] (defScope s_law_less_one) := ⟨rfl, rfl, rfl, by decide +kernel, rfl, by decide +kernel, by decide +kernel⟩
theorem ok_less {f : Addr} {fd : FuncData} (F : Fun K "_law_less_one" "_law_less_one" s_law_less_one f fd) : FnOk P w K mg base CX0 1 f fd ["around"] spLess := by
  refine F.ok scLless_one (fun vs H Q E h => ?_) (fun cdv A outer s H vs Q E hr h => ?_)
  · obtain ⟨ar, xs, rfl, _⟩ := h
    rfl
  obtain ⟨ar, xs, rfl, hw, q⟩ := h
  refine ⟨_, (pss_cons (ps_if (pt_cmpR (op_eqD hr.units) (pv 0) (pe_lst pa_nil) (nomark _)) (pss_one (ps_ret (pe_tup (pa_cons pe_str (pa_cons pe_int pa_nil))))) pss_nil)
    (pss_one (ps_ret (pe_tup (pa_cons pe_str (pa_cons (pe_tup (pa_cons pe_str (pa_cons (pe_ix ix_list (pv 0) pe_int (fun _ _ => rfl)) pa_nil))) (pa_cons (pe_tup (pa_cons pe_str (pa_cons pe_int pa_nil))) pa_nil))))))), ?_⟩
  refine ⟨_, rfl, sz (by show 0 ≤ 100000; decide), fun p0 hp0 => ?_⟩
  have s0 := same_new hp0 (.lst [])
  refine ⟨.list (xs.map PyData.str), .list [], .lst (SqL.of (s0 _ _ hw.1)) (dp_strs xs), .lst (SqL.of upd_same) .nil, shaped_strs hw.2, rfl, _, rfl, ?_⟩
  rw [eqv_nil]
  cases xs with
  | nil =>
    refine iteT ⟨sz (by show 2 ≤ 100000; decide), fun p hp => ?_⟩
    exact q p (mkL (.num 0) []) _ (s0.trans (same_new hp _)) (fun _ => (gd_num ⟨rfl, upd_same⟩ (by decide)).le (by decide) (by decide)) (simple_mkL rfl (fun _ z => nomatch z))
  | cons x0 xr =>
    refine iteF ⟨_, rfl, ar, _, _, _, rfl, rfl, SqL.of (s0 _ _ hw.1), at0, sz (by show 2 ≤ 100000; decide), fun p1 hp1 => ?_⟩
    have s1 := same_new hp1 (.tup [.str "name", .str x0])
    refine ⟨sz (by show 2 ≤ 100000; decide), fun p2 hp2 => ?_⟩
    have s2 := same_new hp2 (.tup [.str "number", .int 1])
    refine ⟨sz (by show 3 ≤ 100000; decide), fun p3 hp3 => ?_⟩
    have s3 := same_new hp3 (.tup [.str "less", .ref p1, .ref p2])
    have s23 := s2.trans s3
    have l1 : Lay _ p1 (.nam x0) [] := ⟨rfl, s23 _ _ upd_same⟩
    have l2 : Lay _ p2 (.num 1) [] := ⟨rfl, s3 _ _ upd_same⟩
    refine q p3 (mkL .less [mkL (.nam x0) [], mkL (.num 1) []]) _ (s0.trans (s1.trans s23)) (fun hd => ?_) (simple_mkL rfl fun t ht => by
      simp only [List.mem_cons, List.not_mem_nil, or_false] at ht
      rcases ht with z | z <;> subst z <;> exact simple_mkL rfl (fun _ z => nomatch z))
    have g1 := gd_nam (hd := hd) (xs := x0 :: xr) l1 (hw.2 x0 List.mem_cons_self) List.mem_cons_self
    have g2 := gd_num (hd := hd) (xs := x0 :: xr) l2 (by decide)
    refine ⟨?_, ?_, ?_, ?_, ?_, ?_⟩
    · exact at_mkL (vs := [.ref p1, .ref p2]) ⟨rfl, upd_same⟩ ⟨⟨p1, rfl, g1.at_⟩, ⟨p2, rfl, g2.at_⟩, trivial⟩
    · refine ok_mkL trivial fun t ht => ?_
      simp only [List.mem_cons, List.not_mem_nil, or_false] at ht
      rcases ht with z | z
      · subst z
        exact g1.ok
      · subst z
        exact g2.ok
    · have c1 := g1.cn
      have c2 := g2.cn
      rw [cnt_mkL, cnts_cons, cnts_cons]
      show 1 + (_ + (_ + 0)) ≤ 3
      omega
    · refine ht_mkL fun t ht => ?_
      simp only [List.mem_cons, List.not_mem_nil, or_false] at ht
      rcases ht with z | z
      · subst z
        exact g1.dp
      · subst z
        exact g2.dp
    · refine sc_mkL trivial fun i t hi => ?_
      match i, hi with
      | 0, hi =>
        cases (Option.some.inj hi)
        exact g1.sc
      | 1, hi =>
        cases (Option.some.inj hi)
        exact g2.sc
      | i + 2, hi => simp at hi
    · rw [lt_mkL, letsL_cons, letsL_cons, g1.lt, g2.lt]
      rfl
end
end KB

namespace KB
open PySem L2

/-! ### parts of turned books as data -/
inductive Pt
  | give (j : Str) (t : Tm)
  | ask (f : Str) (ts : List Tm) (j : Str)
  | tell (x : Str) (t : Tm) (p : Pt)
  | lett (x : Str) (t : Tm) (p : Pt)
  | iff (t : Tm) (p q : Pt)
  | post (j x : Str) (p q : Pt)
def RefV (H : Hp) (t : Tm) (v : V) : Prop := ∃ b, v = .ref b ∧ At H t b
def PAt (H : Hp) : Pt → Addr → Prop
  | .give j t, a => ∃ b, H a = some (.tup [.str "give", .str j, .ref b]) ∧ At H t b
  | .ask f ts j, a => ∃ q vs, H a = some (.tup [.str "ask", .str f, .ref q, .str j]) ∧ H q = some (.tup vs) ∧ All2 (RefV H) ts vs
  | .tell x t p, a => ∃ b c, H a = some (.tup [.str "tell", .str x, .ref b, .ref c]) ∧ At H t b ∧ PAt H p c
  | .lett x t p, a => ∃ b c, H a = some (.tup [.str "let", .str x, .ref b, .ref c]) ∧ At H t b ∧ PAt H p c
  | .iff t p q, a => ∃ b c d, H a = some (.tup [.str "if", .ref b, .ref c, .ref d]) ∧ At H t b ∧ PAt H p c ∧ PAt H q d
  | .post j x p q, a => ∃ c d, H a = some (.tup [.str "post", .str j, .str x, .ref c, .ref d]) ∧ PAt H p c ∧ PAt H q d
theorem RefV.tk {H H' : Hp} (k : TK H H') {t : Tm} {v : V} (h : RefV H t v) : RefV H' t v := let ⟨b, e, g⟩ := h; ⟨b, e, g.tk k⟩
theorem PAt.tk {H H' : Hp} (k : TK H H') : ∀ {p : Pt} {a : Addr}, PAt H p a → PAt H' p a
  | .give j t, a, ⟨b, h1, h2⟩ => ⟨b, k _ _ h1, h2.tk k⟩
  | .ask f ts j, a, ⟨q, vs, h1, h2, h3⟩ => ⟨q, vs, k _ _ h1, k _ _ h2, h3.imp fun _ _ z => z.tk k⟩
  | .tell x t p, a, ⟨b, c, h1, h2, h3⟩ => ⟨b, c, k _ _ h1, h2.tk k, PAt.tk k h3⟩
  | .lett x t p, a, ⟨b, c, h1, h2, h3⟩ => ⟨b, c, k _ _ h1, h2.tk k, PAt.tk k h3⟩
  | .iff t p q, a, ⟨b, c, d, h1, h2, h3, h4⟩ => ⟨b, c, d, k _ _ h1, h2.tk k, PAt.tk k h3, PAt.tk k h4⟩
  | .post j x p q, a, ⟨c, d, h1, h2, h3⟩ => ⟨c, d, k _ _ h1, PAt.tk k h2, PAt.tk k h3⟩
/-- a simple term within words -/
structure SmT (hd : Str → Option Nat) (xs : List Str) (t : Tm) : Prop where
  ok : okT t
  si : simple t = true
  sc : okS hd t xs
  cn : cnt t ≤ 3
  ht : HtLe 2 t
def okP (hd : Str → Option Nat) : Pt → List Str → List Str → Prop
  | .give j t, xs, hs => j ∈ hs ∧ SmT hd xs t
  | .ask f ts j, xs, hs => j ∈ hs ∧ isW f = true ∧ hd f = some ts.length ∧ ts.length ≤ 4 ∧ ∀ t ∈ ts, SmT hd xs t
  | .tell x t p, xs, hs => isW x = true ∧ SmT hd xs t ∧ okP hd p (xs ++ [x]) hs
  | .lett x t p, xs, hs => isW x = true ∧ SmT hd xs t ∧ okP hd p (xs ++ [x]) hs
  | .iff t p q, xs, hs => SmT hd xs t ∧ okP hd p xs hs ∧ okP hd q xs hs
  | .post j x p q, xs, hs => isW j = true ∧ isW x = true ∧ okP hd p (xs ++ [x]) hs ∧ okP hd q xs (hs ++ [j])
def pcnt : Pt → Nat
  | .give _ _ => 1
  | .ask _ _ _ => 1
  | .tell _ _ p => 1 + pcnt p
  | .lett _ _ p => 1 + pcnt p
  | .iff _ p q => 1 + pcnt p + pcnt q
  | .post _ _ p q => 1 + pcnt p + pcnt q
/-- the words and the posts' words that a part binds, as they are met -/
def wP : Pt → List Str
  | .give _ _ => []
  | .ask _ _ _ => []
  | .tell x _ p => x :: wP p
  | .lett x _ p => x :: wP p
  | .iff _ p q => wP p ++ wP q
  | .post _ x p q => x :: (wP p ++ wP q)
def jP : Pt → List Str
  | .give _ _ => []
  | .ask _ _ _ => []
  | .tell _ _ p => jP p
  | .lett _ _ p => jP p
  | .iff _ p q => jP p ++ jP q
  | .post j _ p q => j :: (jP p ++ jP q)

/-! ### what the generator of parts has at hand -/
def But3 (tp wl pl : Addr) (H H' : Hp) : Prop := ∀ b o, b ≠ tp → b ≠ wl → b ≠ pl → H b = some o → H' b = some o
theorem But3.refl (tp wl pl : Addr) (H : Hp) : But3 tp wl pl H H := fun _ _ _ _ _ h => h
theorem But3.trans {tp wl pl : Addr} {H H1 H2 : Hp} (a : But3 tp wl pl H H1) (b : But3 tp wl pl H1 H2) : But3 tp wl pl H H2 := fun x o n m l h => b x o n m l (a x o n m l h)
theorem But1.three {tp wl pl : Addr} {H H' : Hp} (a : But1 tp H H') : But3 tp wl pl H H' := fun x o n _ _ h => a x o n h
theorem but3_same {tp wl pl : Addr} {H H' : Hp} (e : Same H H') : But3 tp wl pl H H' := fun b o _ _ _ h => e b o h
abbrev kgE : Key := Sum.inr "errands"
abbrev kgH : Key := Sum.inr "heads"
abbrev kgW : Key := Sum.inr "words"
abbrev kgR : Key := Sum.inr "room"
abbrev kgP : Key := Sum.inr "posts"
abbrev kgS : Key := Sum.inr "straight"
def knT (el hd wl pl : Addr) (room : Int) (st : Bool) : List (Key × V) := [(kgE, .ref el), (kgH, .ref hd), (kgW, .ref wl), (kgR, .int room), (kgP, .ref pl), (kgS, .bl st)]
structure GT (H : Hp) (tp kd wl pl : Addr) (hF : Str → Option Nat) (ws js : List Str) : Prop where
  t : Tp H tp
  w : Wls H wl ws
  p : Wls H pl js
  wn : ws.length ≤ 100
  pn : js.length ≤ 100
  wp : wl ≠ pl
  k : ∃ el hd fs kvs room st, H kd = some (.dK (knT el hd wl pl room st)) ∧ 1 ≤ room ∧ room ≤ 9 ∧ el ≠ wl ∧ el ≠ pl ∧ Wls H el fs ∧ 0 < fs.length ∧ fs.length ≤ 100 ∧ H hd = some (.dK kvs) ∧ ∀ f ∈ fs, ∃ n : Int, valV kvs (Sum.inr f) = some (.int n) ∧ 0 ≤ n ∧ n ≤ 4 ∧ hF f = some n.toNat
section
variable {H H' : Hp} {tp kd wl pl : Addr} {hF : Str → Option Nat} {ws js ws' js' : List Str}
theorem GT.ntk (g : GT H tp kd wl pl hF ws js) {a : Addr} {o : HO} (h : H a = some o) (hn : ∀ xs, o ≠ .lst xs) : a ≠ tp ∧ a ≠ wl ∧ a ≠ pl := by
  obtain ⟨z, hz⟩ := g.t
  exact ⟨ne_of h hz (hn _), ne_of h g.w.1 (hn _), ne_of h g.p.1 (hn _)⟩
theorem GT.tk (g : GT H tp kd wl pl hF ws js) (b : But3 tp wl pl H H') : TK H H' := fun a _ h => by
  obtain ⟨n1, n2, n3⟩ := g.ntk h (fun _ z => nomatch z)
  exact b a _ n1 n2 n3 h
theorem GT.step (g : GT H tp kd wl pl hF ws js) (b : But3 tp wl pl H H') (t : Tp H' tp) (w : Wls H' wl ws') (p : Wls H' pl js') (wn : ws'.length ≤ 100) (pn : js'.length ≤ 100) : GT H' tp kd wl pl hF ws' js' := by
  obtain ⟨el, hd, fs, kvs, room, st, k1, r1, r2, k2, k2', k3, k4, k5, k6, k7⟩ := g.k
  refine ⟨t, w, p, wn, pn, g.wp, el, hd, fs, kvs, room, st, ?_, r1, r2, k2, k2', ⟨b _ _ (wls_tp k3.1 g.t) k2 k2' k3.1, k3.2⟩, k4, k5, ?_, k7⟩
  · obtain ⟨n1, n2, n3⟩ := g.ntk k1 (fun _ z => nomatch z)
    exact b _ _ n1 n2 n3 k1
  · obtain ⟨n1, n2, n3⟩ := g.ntk k6 (fun _ z => nomatch z)
    exact b _ _ n1 n2 n3 k6
theorem GT.one (g : GT H tp kd wl pl hF ws js) (b : But1 tp H H') (t : Tp H' tp) : GT H' tp kd wl pl hF ws js := g.step b.three t (g.w.but b g.t) (g.p.but b g.t) g.wn g.pn
theorem GT.same (g : GT H tp kd wl pl hF ws js) (e : Same H H') : GT H' tp kd wl pl hF ws js := g.one (but_same e) (g.t.same e)
theorem Wls.three {a : Addr} {xs : List Str} (e : But3 tp wl pl H H') (g : GT H tp kd wl pl hF ws js) (n : a ≠ wl) (m : a ≠ pl) (h : Wls H a xs) : Wls H' a xs := ⟨e _ _ (wls_tp h.1 g.t) n m h.1, h.2⟩
theorem GT.new (g : GT H tp kd wl pl hF ws js) {p : Addr} (h : H p = none) : p ≠ tp ∧ p ≠ wl ∧ p ≠ pl := by
  obtain ⟨z, hz⟩ := g.t
  exact ⟨(ne_of_none hz h).symm, (ne_of_none g.w.1 h).symm, (ne_of_none g.p.1 h).symm⟩
variable {el hd : Addr} {room : Int} {st : Bool}
theorem gt_errands (h : H kd = some (.dK (knT el hd wl pl room st))) : DGet H kd (.str "errands") (some (.ref el)) := DGet.k (k := kgE) h
theorem gt_heads (h : H kd = some (.dK (knT el hd wl pl room st))) : DGet H kd (.str "heads") (some (.ref hd)) := DGet.k (k := kgH) h
theorem gt_words (h : H kd = some (.dK (knT el hd wl pl room st))) : DGet H kd (.str "words") (some (.ref wl)) := DGet.k (k := kgW) h
theorem gt_room (h : H kd = some (.dK (knT el hd wl pl room st))) : DGet H kd (.str "room") (some (.int room)) := DGet.k (k := kgR) h
theorem gt_posts (h : H kd = some (.dK (knT el hd wl pl room st))) : DGet H kd (.str "posts") (some (.ref pl)) := DGet.k (k := kgP) h
theorem gt_straight (h : H kd = some (.dK (knT el hd wl pl room st))) : DGet H kd (.str "straight") (some (.bl st)) := DGet.k (k := kgS) h
end
theorem get_of {H : Hp} {hd : Addr} {kvs : List (Key × V)} {f : Str} {v : V} (h : H hd = some (.dK kvs)) (e : valV kvs (Sum.inr f) = some v) : DGet H hd (.str f) (some v) := by
  have := DGet.k (k := Sum.inr f) h
  rw [e] at this
  exact this
/-- the hand-ons around -/
def Hls (H : Hp) (a : Addr) (hs : List Str) : Prop := H a = some (.lst (hs.map V.str))
end KB

namespace KB
open PySem L2

section
variable {P : Program} {w : World} {K : PySem.W.Frag} {mg : Str → Option Value} {base : Heap}
/-! ### _law_simple -/
/-- a simple term at a, of at most n terms, within d -/
structure GdS (H : Hp) (a : Addr) (n d : Nat) (hd : Str → Option Nat) (xs : List Str) (t : Tm) : Prop where
  g : Gd H a n d hd xs [] t
  s : simple t = true
def spSimple (n : Nat) : Sp := fun vs H Q _ => ∃ (tp ar : Addr) (xs : List Str), vs = [.ref tp, .ref ar, .int n] ∧ Tp H tp ∧ Wls H ar xs ∧ xs.length ≤ 1000 ∧ n ≤ 1 ∧ ∀ a t H', But1 tp H H' → Tp H' tp → (∀ hd, GdS H' a (2 * n + 1) (n + 1) hd xs t) → Q (.ref a) H'
abbrev s_law_simple : Stmt := top 29
theorem scLsimple : FnScope ["tape", "around", "deep", "one"] ["tape", "around", "deep"] (defScope s_law_simple) := ⟨rfl, rfl, rfl, by decide +kernel, rfl, by decide +kernel, by decide +kernel⟩
theorem leaf_simple {H : Hp} {a : Addr} {xs : List Str} {t : Tm} (g : ∀ hd, Gd H a 1 1 hd xs [] t) : simple t = true := by
  have g0 := g fun _ => none
  cases t with
  | mk h n k =>
    have hc := g0.cn
    rw [cnt_mk] at hc
    have hn : n = 0 := by
      cases n with
      | zero => rfl
      | succ m =>
        exfalso
        rw [List.ofFn_succ, cnts_cons] at hc
        have := cnt_pos (k 0)
        omega
    subst hn
    obtain ⟨ys, l, _⟩ := g0.at_
    have hl : (Rfs ys).length = 0 := by
      unfold Rfs
      rw [List.length_ofFn]
    have hs := g0.sc.1
    cases h with
    | num z => rfl
    | nam x => rfl
    | plus => rfl
    | less => rfl
    | tell =>
      have := l.1
      omega
    | lett x =>
      have := l.1
      omega
    | iff =>
      have := l.1
      omega
    | ask f => cases hs
def spPrev : Nat → Sp
  | 0 => fun _ _ _ _ => False
  | n + 1 => spSimple n
theorem two_simple {H : Hp} {p a b : Addr} {hd : Str → Option Nat} {xs : List Str} {h : Hd} {t u : Tm} (hh : h = .plus ∨ h = .less) (g1 : GdS H a 1 1 hd xs t) (g2 : GdS H b 1 1 hd xs u) (hp : H p = some (.tup [.str (hs h), .ref a, .ref b])) : GdS H p 3 2 hd xs (mkL h [t, u]) := by
  have both : ∀ (Pr : Tm → Prop), Pr t → Pr u → ∀ x ∈ [t, u], Pr x := fun Pr h1 h2 x hx => by
    rcases List.mem_cons.mp hx with z | z
    · rw [z]
      exact h1
    · rw [List.mem_singleton.mp z]
      exact h2
  have lay : Lay H p h [.ref a, .ref b] := by
    rcases hh with rfl | rfl
    · exact ⟨rfl, hp⟩
    · exact ⟨rfl, hp⟩
  have c1 := g1.g.cn
  have c2 := g2.g.cn
  refine ⟨⟨at_mkL lay ⟨⟨a, rfl, g1.g.at_⟩, ⟨b, rfl, g2.g.at_⟩, trivial⟩, ok_mkL (by rcases hh with rfl | rfl <;> trivial) (both _ g1.g.ok g2.g.ok), ?_, ht_mkL (both _ g1.g.dp g2.g.dp), ?_, ?_⟩, simple_mkL (by rcases hh with rfl | rfl <;> rfl) (both _ g1.s g2.s)⟩
  · rw [cnt_mkL, cnts_cons, cnts_cons]
    show 1 + (_ + (_ + 0)) ≤ 3
    omega
  · refine sc_mkL (by rcases hh with rfl | rfl <;> trivial) fun i x hi => ?_
    have hin : inn h i xs = xs := by rcases hh with rfl | rfl <;> rfl
    rw [hin]
    exact both (fun y => okS hd y xs) g1.g.sc g2.g.sc x (List.mem_of_getElem? hi)
  · have e1 := g1.g.lt
    have e2 := g2.g.lt
    have : letsOf (mkL h [t, u]) = hdLets h ++ letsL [t, u] := by
      unfold mkL
      rw [lets_mk, ofFn_get]
    rw [this]
    show hdLets h ++ (letsOf t ++ (letsOf u ++ [])) = []
    rw [e1, e2]
    rcases hh with rfl | rfl <;> rfl
theorem GdS.tk {H H' : Hp} {a : Addr} {n d : Nat} {hd : Str → Option Nat} {xs : List Str} {t : Tm} (k : TK H H') (g : GdS H a n d hd xs t) : GdS H' a n d hd xs t := ⟨g.g.tk k, g.s⟩
theorem tp_tk {tp : Addr} {H H' : Hp} (t : Tp H tp) (b : But1 tp H H') : TK H H' := b.tk t
theorem ok_simple (T : Txt K mg) (n : Nat) {f fg fh : Addr} {fd gd hd : FuncData} (F : Fun K "_law_simple" "_law_simple" s_law_simple f fd) (G_law_digit : FnOk P w K mg base CX0 1 fg gd ["tape", "many"] spDig) (R_law_digit : Ref K mg "_law_digit" fg gd ["tape", "many"])
    (G_law_leaf : FnOk P w K mg base CX0 3 fh hd ["tape", "known", "around"] spLeaf) (R_law_leaf : Ref K mg "_law_leaf" fh hd ["tape", "known", "around"])
    (G_law_simple : FnOk P w K mg base CX0 (n + 3) f fd ["tape", "around", "deep"] (spPrev n)) (R_law_simple : Ref K mg "_law_simple" f fd ["tape", "around", "deep"]) : FnOk P w K mg base CX0 (n + 4) f fd ["tape", "around", "deep"] (spSimple n) := by
  refine F.ok scLsimple (fun vs H Q E h => ?_) (fun cdv A outer s H vs Q E hr h => ?_)
  · obtain ⟨tp, ar, xs, rfl, _⟩ := h
    rfl
  obtain ⟨tp, ar, xs, rfl, ht, hw, hx, hn1, q⟩ := h
  refine ⟨_, (pss_cons (ps_if (PW.pt (pw_or (pt_cmpR op_eq (pv 2) pe_int (nomark _)) (pw_or1 (pt_cmpR op_gt (pe_call G_law_digit (hr.mono (by omega)) rfl R_law_digit.m R_law_digit.k R_law_digit.b .nil pass0 (pa_cons (pv 0) (pa_cons pe_int pa_nil))) pe_int (nomark _))))) (pss_one (ps_ret (pe_call G_law_leaf (hr.mono (by omega)) rfl R_law_leaf.m R_law_leaf.k R_law_leaf.b .nil pass0 (pa_cons (pv 0) (pa_cons pe_dnewK (pa_cons (pv 1) pa_nil)))))) pss_nil)
    (pss_cons (ps_set (i := 3) scLsimple.nd rfl (Or.inl rfl) (pe_call G_law_simple (hr.mono (by omega)) rfl R_law_simple.m R_law_simple.k R_law_simple.b .nil pass0 (pa_cons (pv 0) (pa_cons (pv 1) (pa_cons (pe_op op_sub (pv 2) pe_int) pa_nil)))))
    (pss_one (ps_ret (pe_tup (pa_cons (pe_ix ix_list (pe_lst (pa_cons pe_str (pa_cons pe_str pa_nil))) (pe_call G_law_digit (hr.mono (by omega)) rfl R_law_digit.m R_law_digit.k R_law_digit.b .nil pass0 (pa_cons (pv 0) (pa_cons pe_int pa_nil))) (fun _ _ => rfl)) (pa_cons (pv 3) (pa_cons (pe_call G_law_simple (hr.mono (by omega)) rfl R_law_simple.m R_law_simple.k R_law_simple.b .nil pass0 (pa_cons (pv 0) (pa_cons (pv 1) (pa_cons (pe_op op_sub (pv 2) pe_int) pa_nil)))) pa_nil)))))))), ?_⟩
  have leafW : ∀ H1, But1 tp H H1 → Tp H1 tp → (tRet (tCall spLeaf [] E0 (tCons (tVar 0) (tCons tDNewK (tCons (tVar 1) tNil))))) { nx := fun x H' => Q V.non H', rt := Q } [some (.ref tp), some (.ref ar), some (.int n), none] H1 := by
    intro H1 b1 t1
    have w1 := hw.but b1 ht
    refine ⟨_, rfl, fun kv hkv => ⟨_, rfl, ?_⟩⟩
    have s2 := same_new hkv (.dK [])
    refine ⟨tp, .ref kv, ar, xs, rfl, t1.same s2, w1.but (but_same s2) t1, hx, fun a t H3 b3 t3 gd => ?_⟩
    exact q a t H3 ((b1.trans (but_same s2)).trans b3) t3 fun hd => ⟨(gd hd).le (by omega) (by omega), leaf_simple gd⟩
  refine ⟨_, rfl, rfl, _, rfl, ?_⟩
  cases n with
  | zero => exact itT rfl (iteT (leafW H (But1.refl _ _) ht))
  | succ n =>
    have hn0 : n = 0 := by omega
    subst hn0
    refine itF rfl ⟨_, rfl, tp, 3, rfl, ht, by decide, by decide, fun r H1 r0 r1 b1 t1 => ?_⟩
    refine ⟨_, _, rfl, rfl, _, rfl, ?_⟩
    refine ite2 (fun c => leafW H1 b1 t1) (fun c => ?_)
    have w1 := hw.but b1 ht
    refine ⟨_, rfl, _, rfl, _, rfl, _, _, rfl, rfl, tp, ar, xs, rfl, t1, w1, hx, Nat.zero_le _, fun a1 u1 H2 b2 t2 g1 => ?_⟩
    have w2 := w1.but b2 t1
    refine ⟨sz (by show 2 ≤ 100000; decide), fun p3 hp3 => ?_⟩
    have s3 := same_new hp3 (.lst [V.str "plus", .str "less"])
    have np : p3 ≠ tp := by
      obtain ⟨z, hz⟩ := t2
      exact (ne_of_none hz hp3).symm
    have h3 : upd H2 p3 (.lst [V.str "plus", .str "less"]) p3 = some (.lst [V.str "plus", .str "less"]) := upd_same
    have t3 := t2.same s3
    have w3 := w2.but (but_same s3) t2
    refine ⟨_, rfl, tp, 2, rfl, t3, by decide, by decide, fun r4 H4 r40 r41 b4 t4 => ?_⟩
    obtain ⟨v, hv, hm⟩ := at_some (xs := [V.str "plus", .str "less"]) r40 r41
    obtain ⟨h, hh, rfl⟩ : ∃ h : Hd, (h = .plus ∨ h = .less) ∧ v = .str (hs h) := by
      rcases List.mem_cons.mp hm with z | z
      · exact ⟨.plus, .inl rfl, z⟩
      · exact ⟨.less, .inr rfl, List.mem_singleton.mp z⟩
    have w4 := w3.but b4 t3
    refine ⟨p3, _, _, _, rfl, rfl, SqL.of (b4 _ _ np h3), hv, _, rfl, _, rfl, _, rfl, _, rfl, _, _, rfl, rfl, tp, ar, xs, rfl, t4, w4, hx, Nat.zero_le _, fun a2 u2 H5 b5 t5 g2 => ?_⟩
    refine ⟨sz (by show 3 ≤ 100000; decide), fun p6 hp6 => ?_⟩
    have s6 := same_new hp6 (.tup [V.str (hs h), .ref a1, .ref a2])
    have k25 : TK H2 H5 := (tp_tk t2 (but_same s3)).trans ((tp_tk t3 b4).trans (tp_tk t4 b5))
    refine q p6 (mkL h [u1, u2]) _ (((((b1.trans b2).trans (but_same s3)).trans b4).trans b5).trans (but_same s6)) (t5.same s6) fun hd => ?_
    exact two_simple hh ((g1 hd).tk (k25.trans (tk_same s6))) ((g2 hd).tk (tk_same s6)) upd_same
theorem no_sp {k : Nat} {f : Addr} {fd : FuncData} {ps : List Str} : FnOk P w K mg base CX0 k f fd ps (fun _ _ _ _ => False) := ⟨fun _ _ _ _ z => z.elim, fun _ _ _ _ _ _ _ _ _ _ _ _ _ z => z.elim⟩
theorem all_simple (T : Txt K mg) {f fg fh : Addr} {fd gd hd : FuncData} (F : Fun K "_law_simple" "_law_simple" s_law_simple f fd) (G_law_digit : FnOk P w K mg base CX0 1 fg gd ["tape", "many"] spDig) (R_law_digit : Ref K mg "_law_digit" fg gd ["tape", "many"])
    (G_law_leaf : FnOk P w K mg base CX0 3 fh hd ["tape", "known", "around"] spLeaf) (R_law_leaf : Ref K mg "_law_leaf" fh hd ["tape", "known", "around"]) (R_law_simple : Ref K mg "_law_simple" f fd ["tape", "around", "deep"]) : FnOk P w K mg base CX0 5 f fd ["tape", "around", "deep"] (spSimple 1) :=
  ok_simple T 1 F G_law_digit R_law_digit G_law_leaf R_law_leaf (ok_simple T 0 F G_law_digit R_law_digit G_law_leaf R_law_leaf no_sp R_law_simple) R_law_simple
end
end KB

namespace KB
open PySem L2

/-! ### the words that are drawn -/
def lettersS : Str := "abcdefghijklmnopqrstuvwxyz"
def sgn (i : Nat) : Str := ⟨#[97 + i % 26]⟩
def endsL : List Str := ["", "a", "omelons"]
def someL : List Str := ["give", "ask", "post", "plus", "less", "name", "number", "to", "as", "f", "x", "aq", "bq", "lets", "ifs", "ina", "homes", "q"]
def w0 (turn : Nat) (e : Str) (k : Nat) : Str := sgn (turn + k) ++ e
def w1 (turn : Nat) (k : Nat) : Str := repS (sgn (turn + k / 8)) (1 + (k : Int) % 8)
def w2 (turn : Nat) (k : Nat) : Str := someL.getD ((turn + k) % 18) ""
def good16 (f : Nat → Str) : Bool := ((List.range 16).map f).all isW && decide ((List.range 16).map f).Nodup
theorem good_w0 : ∀ turn < 26, ∀ e ∈ endsL, good16 (w0 turn e) = true := by decide +kernel
theorem good_w1 : ∀ turn < 26, good16 (w1 turn) = true := by decide +kernel
theorem good_w2 : ∀ turn < 26, good16 (w2 turn) = true := by decide +kernel
theorem good_of {f : Nat → Str} (h : good16 f = true) {n : Nat} (hn : n ≤ 16) : (∀ x ∈ (List.range n).map f, isW x = true) ∧ ((List.range n).map f).Nodup := by
  unfold good16 at h
  rw [Bool.and_eq_true] at h
  have hs : ((List.range n).map f).Sublist ((List.range 16).map f) := (List.range_sublist.mpr hn).map f
  exact ⟨fun x hx => List.all_eq_true.mp h.1 x (hs.subset hx), (of_decide_eq_true h.2).sublist hs⟩
theorem letters_at {i : Int} (h0 : 0 ≤ i) (h1 : i < 26) : atI lettersS.cps.toList i = some (97 + i.toNat) := by
  have e : lettersS.cps.toList = (List.range 26).map (97 + ·) := by decide +kernel
  rw [e]
  obtain ⟨n, rfl⟩ : ∃ n : Nat, i = (n : Int) := ⟨i.toNat, by omega⟩
  rw [Int.toNat_natCast]
  refine atI_nat ?_
  rw [List.getElem?_map, List.getElem?_range (by omega)]
  rfl
theorem range_push {f : Nat → Str} (i : Nat) : ((List.range i).map f).map V.str ++ [V.str (f i)] = ((List.range (i + 1)).map f).map V.str := by
  rw [List.range_succ, List.map_append, List.map_append]
  rfl

section
variable {P : Program} {w : World} {K : PySem.W.Frag} {mg : Str → Option Value} {base : Heap}
def spWords : Sp := fun vs H Q _ => ∃ (tp : Addr) (many : Int), vs = [.ref tp, .int many] ∧ Tp H tp ∧ 0 ≤ many ∧ many ≤ 16 ∧
  ∀ (p : Addr) (xs : List Str) (H' : Hp), But1 tp H H' → Tp H' tp → H p = none → Wls H' p xs → (xs.length : Int) = many → xs.Nodup → Q (.ref p) H'
abbrev s_law_words : Stmt := top 25
theorem scLwords : FnScope ["tape", "many", "letters", "way", "turn", "ends", "k", "some"] ["tape", "many"] (defScope s_law_words) := ⟨rfl, rfl, rfl, by decide +kernel, rfl, by decide +kernel, by decide +kernel⟩
theorem ok_words (T : Txt K mg) {f g : Addr} {fd gd : FuncData} (F : Fun K "_law_words" "_law_words" s_law_words f fd) (G_law_digit : FnOk P w K mg base CX0 1 g gd ["tape", "many"] spDig) (R_law_digit : Ref K mg "_law_digit" g gd ["tape", "many"]) : FnOk P w K mg base CX0 2 f fd ["tape", "many"] spWords := by
  refine F.ok scLwords (fun vs H Q E h => ?_) (fun cdv A outer s H vs Q E hr h => ?_)
  · obtain ⟨tp, many, rfl, _⟩ := h
    rfl
  obtain ⟨tp, many, rfl, ht, hm0, hm1, q⟩ := h
  refine ⟨_, (pss_cons (ps_set (i := 2) scLwords.nd rfl (Or.inr rfl) pe_str)
    (pss_cons (ps_set (i := 3) scLwords.nd rfl (Or.inl rfl) (pe_call G_law_digit hr rfl R_law_digit.m R_law_digit.k R_law_digit.b .nil pass0 (pa_cons (pv 0) (pa_cons pe_int pa_nil))))
    (pss_cons (ps_set (i := 4) scLwords.nd rfl (Or.inr rfl) (pe_call G_law_digit hr rfl R_law_digit.m R_law_digit.k R_law_digit.b .nil pass0 (pa_cons (pv 0) (pa_cons pe_int pa_nil))))
    (pss_cons (ps_if (pt_cmpR op_eq (pv 3) pe_int (nomark _)) (pss_cons (ps_set (i := 5) scLwords.nd rfl (Or.inr rfl) (pe_ix ix_list (pe_lst (pa_cons pe_str (pa_cons pe_str (pa_cons pe_str pa_nil)))) (pe_call G_law_digit hr rfl R_law_digit.m R_law_digit.k R_law_digit.b .nil pass0 (pa_cons (pv 0) (pa_cons pe_int pa_nil))) (fun _ _ => rfl)))
    (pss_one (ps_ret (pe_lc (own := [("k", 6)]) (g := gName 6) (by rfl) scLwords.nd (pi_range1 rfl T.m_range (pa_cons (pv 1) pa_nil)) (blkOk_by (own := [("k", 6)]) (N := ["tape", "many", "letters", "way", "turn", "ends", "k", "some"]) (sc := defScope s_law_words) (by decide +kernel)) (fun _ _ _ _ _ => (pg_name (i := 6) scLwords.nd rfl (Or.inl rfl))) (fun _ _ _ _ _ => pts_nil) (fun _ _ _ _ _ => (pe_op op_add_str (pe_ix ix_str (pv 2) (pe_op op_mod (pe_op op_add (pv 4) (pv 6)) pe_int) (fun _ _ => rfl)) (pv 5))))))) pss_nil)
    (pss_cons (ps_if (pt_cmpR op_eq (pv 3) pe_int (nomark _)) (pss_one (ps_ret (pe_lc (own := [("k", 6)]) (g := gName 6) (by rfl) scLwords.nd (pi_range1 rfl T.m_range (pa_cons (pv 1) pa_nil)) (blkOk_by (own := [("k", 6)]) (N := ["tape", "many", "letters", "way", "turn", "ends", "k", "some"]) (sc := defScope s_law_words) (by decide +kernel)) (fun _ _ _ _ _ => (pg_name (i := 6) scLwords.nd rfl (Or.inl rfl))) (fun _ _ _ _ _ => pts_nil) (fun _ _ _ _ _ => (pe_op op_mul_str (pe_ix ix_str (pv 2) (pe_op op_mod (pe_op op_add (pv 4) (pe_op op_fdiv (pv 6) pe_int)) pe_int) (fun _ _ => rfl)) (pe_op op_add pe_int (pe_op op_mod (pv 6) pe_int))))))) pss_nil)
    (pss_cons (ps_set (i := 7) scLwords.nd rfl (Or.inr rfl) (pe_lst (pa_cons pe_str (pa_cons pe_str (pa_cons pe_str (pa_cons pe_str (pa_cons pe_str (pa_cons pe_str (pa_cons pe_str (pa_cons pe_str (pa_cons pe_str (pa_cons pe_str (pa_cons pe_str pa_nil)))))))))))))
    (pss_cons (ps_set (i := 7) scLwords.nd rfl (Or.inr rfl) (pe_op op_cat (pv 7) (pe_lst (pa_cons pe_str (pa_cons pe_str (pa_cons pe_str (pa_cons pe_str (pa_cons pe_str (pa_cons pe_str (pa_cons pe_str pa_nil))))))))))
    (pss_one (ps_ret (pe_lc (own := [("k", 6)]) (g := gName 6) (te := tOp (rIxL K) (tVar 7) (tOp (rI (fun _ j => 0 < j) fun i j => .int (i % j)) (tOp (rI0 fun i j => .int (i + j)) (tVar 4) (tVar 6)) (tC (.int 18)))) (by rfl) scLwords.nd (pi_range1 rfl T.m_range (pa_cons (pv 1) pa_nil)) (blkOk_by (own := [("k", 6)]) (N := ["tape", "many", "letters", "way", "turn", "ends", "k", "some"]) (sc := defScope s_law_words) (by decide +kernel)) (fun _ _ _ _ _ => (pg_name (i := 6) scLwords.nd rfl (Or.inl rfl))) (fun _ _ _ _ _ => pts_nil) (fun _ _ _ _ _ => (pe_ix ix_list (pv 7) (pe_op op_mod (pe_op op_add (pv 4) (pv 6)) pe_int) (fun _ _ => rfl))))))))))))), ?_⟩
  have fin : ∀ (f : Nat → Str), good16 f = true → ∀ (H1 : Hp) (D : Addr) (H' : Hp), But1 tp H H1 → Tp H1 tp → H1 D = none → Same H1 H' → H' D = some (.lst (((List.range many.toNat).map f).map V.str)) → Q (.ref D) H' := by
    intro f hf H1 D H' b1 t1 hD s1 h1
    obtain ⟨e1, e2⟩ := good_of hf (n := many.toNat) (by omega)
    refine q D _ H' (b1.trans (but_same s1)) (t1.same s1) ?_ ⟨h1, e1⟩ (by rw [List.length_map, List.length_range]; omega) e2
    cases e : H D with
    | none => rfl
    | some o =>
      obtain ⟨z, hz⟩ := t1
      rw [b1 _ _ (ne_of_none hz hD).symm e] at hD
      cases hD
  refine ⟨_, rfl, tp, 3, rfl, ht, by decide, by decide, fun way H1 _ _ b1 t1 => ?_⟩
  refine ⟨_, rfl, tp, 26, rfl, t1, by decide, by decide, fun turn H2 r0 r1 b2 t2 => ?_⟩
  have b12 := b1.trans b2
  refine ⟨_, rfl, rfl, _, rfl, ?_⟩
  refine ite2 (fun c1 => ?_) (fun c1 => ?_)
  · refine ⟨sz (by show 3 ≤ 100000; decide), fun p hp => ?_⟩
    have s3 := same_new hp (.lst [.str "", .str "a", .str "omelons"])
    have np : p ≠ tp := by
      obtain ⟨z, hz⟩ := t2
      exact (ne_of_none hz hp).symm
    refine ⟨_, rfl, tp, 3, rfl, t2.same s3, by decide, by decide, fun r H3 r2 r3 b3 t3 => ?_⟩
    obtain ⟨v, hv, hm⟩ := at_some (xs := endsL.map V.str) r2 r3
    obtain ⟨e, he, rfl⟩ := List.mem_map.mp hm
    have hel : e.length ≤ 100 := by
      have : ∀ x ∈ endsL, x.length ≤ 100 := by decide +kernel
      exact this e he
    refine ⟨p, _, _, _, rfl, rfl, SqL.of (b3 _ _ np upd_same), hv, ?_⟩
    have b4 := (b12.trans (but_same s3)).trans b3
    refine ⟨_, rfl, many, rfl, by omega, by omega, fun D hD => lc_range (lo := 0) (n := many.toNat) (fun i H' => Same H3 H' ∧ H' D = some (.lst (((List.range i).map (w0 turn.toNat e)).map V.str))) ⟨same_new hD _, upd_same⟩ ?_ ?_⟩
    · rintro i H' hi ⟨s5, h5⟩
      have ei : (turn + (0 + (i : Nat))) % 26 = (((turn.toNat + i) % 26 : Nat) : Int) := by omega
      refine ⟨rfl, ?_⟩
      dsimp only [tYes]
      refine iteT ?_
      refine ⟨_, rfl, _, rfl, _, rfl, _, _, rfl, rfl, _, _, rfl, rfl, (by show (0 : Int) < 26; decide), lettersS, _, _, rfl, rfl, (by decide +kernel), letters_at (Int.emod_nonneg _ (by decide)) (Int.emod_lt_of_pos _ (by decide)), ?_⟩
      refine ⟨_, rfl, _, _, rfl, rfl, sz (by show 1 + e.length ≤ 100000; omega), ?_⟩
      refine ⟨_, h5, Nat.lt_of_le_of_lt (m := 100) (by rw [List.length_map, List.length_map, List.length_range]; omega) (by decide), same_mut s5 hD, ?_⟩
      rw [upd_same, ← range_push]
      have e9 : w0 turn.toNat e i = (⟨#[97 + ((turn + (0 + (i : Nat))) % 26).toNat]⟩ : Str) ++ e := by
        rw [ei, Int.toNat_natCast]
        rfl
      rw [e9]
    · rintro H' ⟨s5, h5⟩
      exact fin _ (good_w0 turn.toNat (by omega) e he) H3 D H' b4 t3 hD s5 h5
  refine ⟨_, rfl, rfl, _, rfl, ?_⟩
  refine ite2 (fun c2 => ?_) (fun c2 => ?_)
  · refine ⟨_, rfl, many, rfl, by omega, by omega, fun D hD => lc_range (lo := 0) (n := many.toNat) (fun i H' => Same H2 H' ∧ H' D = some (.lst (((List.range i).map (w1 turn.toNat)).map V.str))) ⟨same_new hD _, upd_same⟩ ?_ ?_⟩
    · rintro i H' hi ⟨s5, h5⟩
      have ei : (turn + (0 + (i : Nat)) / 8) % 26 = (((turn.toNat + i / 8) % 26 : Nat) : Int) := by omega
      refine ⟨rfl, ?_⟩
      dsimp only [tYes]
      refine iteT ?_
      refine ⟨_, rfl, _, rfl, _, rfl, _, _, rfl, rfl, ⟨by decide, by decide⟩, _, _, rfl, rfl, _, _, rfl, rfl, (by show (0 : Int) < 26; decide), lettersS, _, _, rfl, rfl, (by decide +kernel), letters_at (Int.emod_nonneg _ (by decide)) (Int.emod_lt_of_pos _ (by decide)), ?_⟩
      refine ⟨_, rfl, _, _, rfl, rfl, (by show (0 : Int) < 8; decide), _, _, rfl, rfl, _, _, rfl, rfl, by omega, by omega, Nat.le_refl 1, by show 1 ≤ 1000; decide, ?_⟩
      refine ⟨_, h5, Nat.lt_of_le_of_lt (m := 100) (by rw [List.length_map, List.length_map, List.length_range]; omega) (by decide), same_mut s5 hD, ?_⟩
      rw [upd_same, ← range_push]
      have e9 : w1 turn.toNat i = repS (⟨#[97 + ((turn + (0 + (i : Nat)) / 8) % 26).toNat]⟩ : Str) (1 + (0 + (i : Nat)) % 8) := by
        rw [ei, Int.toNat_natCast, Int.zero_add]
        rfl
      rw [e9]
    · rintro H' ⟨s5, h5⟩
      exact fin _ (good_w1 turn.toNat (by omega)) H2 D H' b12 t2 hD s5 h5
  · refine ⟨sz (by show 11 ≤ 100000; decide), fun p1 hp1 => ?_⟩
    have s3 := same_new hp1 (.lst ((someL.take 11).map V.str))
    refine ⟨_, rfl, sz (by show 7 ≤ 100000; decide), fun p2 hp2 => ?_⟩
    have s4 := same_new hp2 (.lst ((someL.drop 11).map V.str))
    refine ⟨p1, p2, (someL.take 11).map V.str, (someL.drop 11).map V.str, rfl, rfl, s4 _ _ upd_same, upd_same, sz (by show 18 ≤ 100000; decide), fun p3 hp3 => ?_⟩
    have s5 := same_new hp3 (.lst ((someL.take 11).map V.str ++ (someL.drop 11).map V.str))
    have s35 := s3.trans (s4.trans s5)
    have h3 : upd (upd (upd H2 p1 (.lst ((someL.take 11).map V.str))) p2 (.lst ((someL.drop 11).map V.str))) p3 (.lst ((someL.take 11).map V.str ++ (someL.drop 11).map V.str)) p3 = some (.lst (someL.map V.str)) := upd_same
    have t3 := t2.same s35
    have b3 := b12.trans (but_same s35)
    refine ⟨_, rfl, many, rfl, by omega, by omega, fun D hD => lc_range (lo := 0) (n := many.toNat) (fun i H' => Same (upd (upd (upd H2 p1 (.lst ((someL.take 11).map V.str))) p2 (.lst ((someL.drop 11).map V.str))) p3 (.lst ((someL.take 11).map V.str ++ (someL.drop 11).map V.str))) H' ∧ H' D = some (.lst (((List.range i).map (w2 turn.toNat)).map V.str))) ⟨same_new hD _, upd_same⟩ ?_ ?_⟩
    · rintro i H' hi ⟨s6, h6⟩
      have ei : (turn + (0 + (i : Nat))) % 18 = (((turn.toNat + i) % 18 : Nat) : Int) := by omega
      have hat : atI (someL.map V.str) ((turn + (0 + (i : Nat))) % 18) = some (V.str (w2 turn.toNat i)) := by
        rw [ei]
        refine atI_nat ?_
        rw [List.getElem?_map]
        unfold w2
        have hl : (turn.toNat + i) % 18 < someL.length := Nat.mod_lt _ (by decide)
        rw [List.getElem?_eq_getElem hl, List.getD_eq_getElem?_getD, List.getElem?_eq_getElem hl]
        rfl
      refine ⟨rfl, ?_⟩
      dsimp only [tYes]
      refine iteT ?_
      refine ⟨_, rfl, _, rfl, _, rfl, _, _, rfl, rfl, _, _, rfl, rfl, (by show (0 : Int) < 18; decide), p3, _, _, _, rfl, rfl, SqL.of (s6 _ _ h3), hat, ?_⟩
      refine ⟨_, h6, Nat.lt_of_le_of_lt (m := 100) (by rw [List.length_map, List.length_map, List.length_range]; omega) (by decide), same_mut s6 hD, ?_⟩
      rw [upd_same, ← range_push]
    · rintro H' ⟨s6, h6⟩
      exact fin _ (good_w2 turn.toNat (by omega)) _ D H' b3 t3 hD s6 h6
end
end KB

namespace KB
open PySem L2

/-! ### turned books -/
def But2 (tp wl : Addr) (H H' : Hp) : Prop := ∀ b o, b ≠ tp → b ≠ wl → H b = some o → H' b = some o
theorem But2.refl (tp wl : Addr) (H : Hp) : But2 tp wl H H := fun _ _ _ _ h => h
abbrev TEr := Str × List Str × Pt
def TErV (H : Hp) (e : TEr) (v : V) : Prop := ∃ q r b, v = .ref q ∧ H q = some (.tup [.str e.1, .ref r, .ref b]) ∧ H r = some (.tup (e.2.1.map V.str)) ∧ PAt H e.2.2 b
theorem TErV.tk {H H' : Hp} (t : TK H H') {e : TEr} {v : V} (h : TErV H e v) : TErV H' e v :=
  let ⟨q, r, b, e1, h1, h2, h3⟩ := h; ⟨q, r, b, e1, t _ _ h1, t _ _ h2, h3.tk t⟩
def TBkAt (H : Hp) (es : List TEr) (vs : List V) (p : Addr) : Prop := H p = some (.tup vs) ∧ All2 (TErV H) es vs
theorem cut_to {xs : List V} {i : Int} (h0 : 0 ≤ i) (h : i.toNat ≤ xs.length) : cutV xs none (some i) = xs.take i.toNat := by
  unfold cutV
  rw [sIx_no, sIx_at h0 h, List.drop_zero, Nat.sub_zero]

end KB

namespace KB
open PySem L2

/-! ### laid parts -/
/-- a simple term, good -/
structure LTm (t : Tm) : Prop where
  ok : okT t
  si : simple t = true
  cn : cnt t ≤ 13
  ht : HtLe 5 t
def askL (j : Str) : Pt → Prop
  | .ask f ts i => i = j ∧ isW f = true ∧ ts.length ≤ 4 ∧ ∀ t ∈ ts, LTm t
  | _ => False
def okL : Pt → Prop
  | .give j t => j = "home" ∧ LTm t
  | .ask f ts i => askL "home" (.ask f ts i)
  | .tell x t p => isW x = true ∧ LTm t ∧ okL p
  | .lett x t p => isW x = true ∧ LTm t ∧ okL p
  | .iff t p q => LTm t ∧ okL p ∧ okL q
  | .post j x p q => isW j = true ∧ isW x = true ∧ okL p ∧ askL j q
theorem HtLe.to : ∀ {n m : Nat} {t : Tm}, HtLe n t → n ≤ m → HtLe m t := fun h e => h.le e
theorem GdS.lt {H : Hp} {a : Addr} {hd : Str → Option Nat} {xs : List Str} {t : Tm} (g : GdS H a 3 2 hd xs t) : LTm t := ⟨g.g.ok, g.s, Nat.le_trans g.g.cn (by decide), g.g.dp.le (by decide)⟩
/-- a simple term at b, of at most n terms, within at most d -/
def TmB (H : Hp) (n d : Nat) (b : Addr) : Prop := ∃ t, At H t b ∧ okT t ∧ simple t = true ∧ cnt t ≤ n ∧ HtLe d t
theorem TmB.tk {H H' : Hp} {n d : Nat} {b : Addr} (k : TK H H') : TmB H n d b → TmB H' n d b := fun ⟨t, h1, h2⟩ => ⟨t, h1.tk k, h2⟩
theorem TmB.le {H : Hp} {n d m e : Nat} {b : Addr} (h1 : n ≤ m) (h2 : d ≤ e) : TmB H n d b → TmB H m e b := fun ⟨t, g1, g2, g3, g4, g5⟩ => ⟨t, g1, g2, g3, Nat.le_trans g4 h1, g5.le h2⟩
theorem TmB.lt {H : Hp} {b : Addr} : TmB H 13 5 b → ∃ t, At H t b ∧ LTm t := fun ⟨t, g1, g2, g3, g4, g5⟩ => ⟨t, g1, g2, g3, g4, g5⟩
theorem GdS.tb {H : Hp} {a : Addr} {hd : Str → Option Nat} {n d : Nat} {xs : List Str} {t : Tm} (g : GdS H a n d hd xs t) : TmB H n d a := ⟨t, g.g.at_, g.g.ok, g.s, g.g.cn, g.g.dp⟩
theorem tb_two {H : Hp} {p a b : Addr} {n m d e : Nat} {h : Hd} (hh : h = .plus ∨ h = .less) (g1 : TmB H n d a) (g2 : TmB H m e b) (hp : H p = some (.tup [.str (hs h), .ref a, .ref b])) : TmB H (1 + n + m) (max d e + 1) p := by
  obtain ⟨t, a1, a2, a3, a4, a5⟩ := g1
  obtain ⟨u, b1, b2, b3, b4, b5⟩ := g2
  have both : ∀ (Pr : Tm → Prop), Pr t → Pr u → ∀ x ∈ [t, u], Pr x := fun Pr h1 h2 x hx => by
    rcases List.mem_cons.mp hx with z | z
    · rw [z]
      exact h1
    · rw [List.mem_singleton.mp z]
      exact h2
  have lay : Lay H p h [.ref a, .ref b] := by
    rcases hh with rfl | rfl
    · exact ⟨rfl, hp⟩
    · exact ⟨rfl, hp⟩
  refine ⟨mkL h [t, u], at_mkL lay ⟨⟨a, rfl, a1⟩, ⟨b, rfl, b1⟩, trivial⟩, ok_mkL (by rcases hh with rfl | rfl <;> trivial) (both _ a2 b2), simple_mkL (by rcases hh with rfl | rfl <;> rfl) (both _ a3 b3), ?_, ht_mkL (both _ (a5.le (by omega)) (b5.le (by omega)))⟩
  rw [cnt_mkL, cnts_cons, cnts_cons]
  show 1 + (_ + (_ + 0)) ≤ _
  omega
theorem tb_new {H : Hp} {p a b : Addr} {n m d e : Nat} {h : Hd} (hh : h = .plus ∨ h = .less) (g1 : TmB H n d a) (g2 : TmB H m e b) (hp : H p = none) : TmB (upd H p (.tup [.str (hs h), .ref a, .ref b])) (1 + n + m) (max d e + 1) p :=
  tb_two hh (g1.tk (tk_same (same_new hp _))) (g2.tk (tk_same (same_new hp _))) upd_same
theorem tb_nam {H : Hp} {p : Addr} {x : Str} (o : isW x = true) (hp : H p = some (.tup [.str "name", .str x])) : TmB H 1 1 p :=
  ⟨mkL (.nam x) [], at_mkL ⟨rfl, hp⟩ trivial, ok_mkL o (fun _ z => nomatch z), simple_mkL rfl (fun _ z => nomatch z), by rw [cnt_mkL]; exact Nat.le_refl 1, ht_mkL (n := 0) (fun _ z => nomatch z)⟩
/-- what is at hand while the terms are written: here, one, other, and the terms so far -/
structure AdS (H0 H : Hp) (tp p0 a1 a2 : Addr) (ds : List Addr) : Prop where
  b : But1 tp H0 H
  t : Tp H tp
  g0 : TmB H 1 1 p0
  g1 : TmB H 3 2 a1
  g2 : TmB H 3 2 a2
  ds : ∀ d ∈ ds, TmB H 13 5 d
theorem AdS.new {H0 H : Hp} {tp p0 a1 a2 : Addr} {ds : List Addr} (I : AdS H0 H tp p0 a1 a2 ds) {p : Addr} (hp : H p = none) (o : HO) : AdS H0 (upd H p o) tp p0 a1 a2 ds :=
  have s := same_new hp o
  ⟨I.b.trans (but_same s), I.t.same s, I.g0.tk (tk_same s), I.g1.tk (tk_same s), I.g2.tk (tk_same s), fun d hd => (I.ds d hd).tk (tk_same s)⟩
theorem AdS.put {H0 H : Hp} {tp p0 a1 a2 : Addr} {ds : List Addr} (I : AdS H0 H tp p0 a1 a2 ds) {d : Addr} (h : TmB H 13 5 d) : AdS H0 H tp p0 a1 a2 (ds ++ [d]) :=
  ⟨I.b, I.t, I.g0, I.g1, I.g2, fun e he => by
    rcases List.mem_append.mp he with z | z
    · exact I.ds e z
    · rw [List.mem_singleton.mp z]
      exact h⟩
theorem AdS.two {H0 H : Hp} {tp p0 a1 a2 : Addr} {ds : List Addr} (I : AdS H0 H tp p0 a1 a2 ds) {p a b : Addr} {n m d e : Nat} (h : Hd) (hh : h = .plus ∨ h = .less) (x : TmB H n d a) (y : TmB H m e b) (hp : H p = none) (c : 1 + n + m ≤ 13) (c2 : max d e + 1 ≤ 5) :
    AdS H0 (upd H p (.tup [.str (hs h), .ref a, .ref b])) tp p0 a1 a2 (ds ++ [p]) := (I.new hp _).put ((tb_new hh x y hp).le c c2)
theorem AdS.fin {H0 HJ H5 H6 : Hp} {tp p0 a1 a2 : Addr} {ds : List Addr} {Q : VK} (J : AdS H0 HJ tp p0 a1 a2 ds) (b5 : But1 tp HJ H5) (t5 : Tp H5 tp) (b6 : But1 tp H5 H6) (t6 : Tp H6 tp)
    (q : ∀ a t H', But1 tp H0 H' → Tp H' tp → At H' t a → LTm t → Q (.ref a) H') : (∀ d ∈ ds, Q (.ref d) H6) ∧ Q (.ref p0) H6 ∧ Q (.ref a1) H6 := by
  have k6 : TK HJ H6 := (tp_tk J.t b5).trans (tp_tk t5 b6)
  have fin : ∀ d, TmB HJ 13 5 d → Q (.ref d) H6 := fun d hd => by
    obtain ⟨t, h1, h2⟩ := (hd.tk k6).lt
    exact q d t H6 ((J.b.trans b5).trans b6) t6 h1 h2
  exact ⟨fun d hd => fin d (J.ds d hd), fin _ (J.g0.le (by decide) (by decide)), fin _ (J.g1.le (by decide) (by decide))⟩
section
variable {P : Program} {w : World} {K : PySem.W.Frag} {mg : Str → Option Value} {base : Heap}
/-! ### _law_adding -/
def spLAdd : Sp := fun vs H Q _ => ∃ (tp ar : Addr) (xs : List Str) (x : Str), vs = [.ref tp, .ref ar, .str x] ∧ Tp H tp ∧ Wls H ar xs ∧ xs.length ≤ 1000 ∧ isW x = true ∧ ∀ a t H', But1 tp H H' → Tp H' tp → At H' t a → LTm t → Q (.ref a) H'
abbrev s_law_adding : Stmt := top 33
theorem scLadding : FnScope ["tape", "around", "x", "here", "one", "other", "some"] ["tape", "around", "x"] (defScope s_law_adding) := ⟨rfl, rfl, rfl, by decide +kernel, rfl, by decide +kernel, by decide +kernel⟩
theorem ok_ladd (T : Txt K mg) {f fg fs : Addr} {fd gd sd : FuncData} (F : Fun K "_law_adding" "_law_adding" s_law_adding f fd) (G_law_digit : FnOk P w K mg base CX0 1 fg gd ["tape", "many"] spDig) (R_law_digit : Ref K mg "_law_digit" fg gd ["tape", "many"])
    (G_law_simple : FnOk P w K mg base CX0 5 fs sd ["tape", "around", "deep"] (spSimple 1)) (R_law_simple : Ref K mg "_law_simple" fs sd ["tape", "around", "deep"]) : FnOk P w K mg base CX0 6 f fd ["tape", "around", "x"] spLAdd := by
  refine F.ok scLadding (fun vs H Q E h => ?_) (fun cdv A outer s H vs Q E hr h => ?_)
  · obtain ⟨tp, ar, xs, x, rfl, _⟩ := h
    rfl
  obtain ⟨tp, ar, xs, x, rfl, ht, hw, hx, hxW, q⟩ := h
  refine ⟨_, (pss_cons (ps_set (i := 3) scLadding.nd rfl (Or.inl rfl) (pe_tup (pa_cons pe_str (pa_cons (pv 2) pa_nil))))
    (pss_cons (ps_par (i := 4) (j := 5) rfl scLadding.nd rfl rfl (by decide) rfl rfl (pa_cons (pe_call G_law_simple (hr.mono (by omega)) rfl R_law_simple.m R_law_simple.k R_law_simple.b .nil pass0 (pa_cons (pv 0) (pa_cons (pv 1) (pa_cons pe_int pa_nil)))) (pa_cons (pe_call G_law_simple (hr.mono (by omega)) rfl R_law_simple.m R_law_simple.k R_law_simple.b .nil pass0 (pa_cons (pv 0) (pa_cons (pv 1) (pa_cons pe_int pa_nil)))) pa_nil)) (by rfl))
    (pss_cons (ps_set (i := 6) scLadding.nd rfl (Or.inl rfl) (pe_lst (pa_cons (pv 3) (pa_cons (pe_tup (pa_cons pe_str (pa_cons (pv 3) (pa_cons (pv 4) pa_nil)))) (pa_cons (pe_tup (pa_cons pe_str (pa_cons (pv 4) (pa_cons (pv 3) pa_nil)))) (pa_cons (pe_tup (pa_cons pe_str (pa_cons (pv 3) (pa_cons (pv 4) pa_nil)))) (pa_cons (pe_tup (pa_cons pe_str (pa_cons (pv 4) (pa_cons (pe_tup (pa_cons pe_str (pa_cons (pv 3) (pa_cons (pv 5) pa_nil)))) pa_nil)))) pa_nil)))))))
    (pss_cons (ps_set (i := 6) scLadding.nd rfl (Or.inl rfl) (pe_op op_cat (pv 6) (pe_lst (pa_cons (pe_tup (pa_cons pe_str (pa_cons (pe_tup (pa_cons pe_str (pa_cons (pv 4) (pa_cons (pv 3) pa_nil)))) (pa_cons (pv 5) pa_nil)))) (pa_cons (pe_tup (pa_cons pe_str (pa_cons (pe_tup (pa_cons pe_str (pa_cons (pv 4) (pa_cons (pv 5) pa_nil)))) (pa_cons (pv 3) pa_nil)))) pa_nil)))))
    (pss_cons (ps_set (i := 6) scLadding.nd rfl (Or.inl rfl) (pe_op op_cat (pv 6) (pe_lst (pa_cons (pe_tup (pa_cons pe_str (pa_cons (pv 4) (pa_cons (pv 3) pa_nil)))) (pa_cons (pe_tup (pa_cons pe_str (pa_cons (pv 3) (pa_cons (pv 3) pa_nil)))) (pa_cons (pv 4) (pa_cons (pe_tup (pa_cons pe_str (pa_cons (pv 4) (pa_cons (pe_tup (pa_cons pe_str (pa_cons (pv 5) (pa_cons (pv 3) pa_nil)))) pa_nil)))) pa_nil)))))))
    (pss_cons (ps_set (i := 6) scLadding.nd rfl (Or.inl rfl) (pe_op op_cat (pv 6) (pe_lst (pa_cons (pe_tup (pa_cons pe_str (pa_cons (pv 4) (pa_cons (pe_tup (pa_cons pe_str (pa_cons (pv 3) (pa_cons (pv 5) pa_nil)))) pa_nil)))) (pa_cons (pe_tup (pa_cons pe_str (pa_cons (pv 4) (pa_cons (pe_tup (pa_cons pe_str (pa_cons (pv 5) (pa_cons (pv 3) pa_nil)))) pa_nil)))) pa_nil)))))
    (pss_cons (ps_set (i := 6) scLadding.nd rfl (Or.inl rfl) (pe_op op_cat (pv 6) (pe_lst (pa_cons (pe_tup (pa_cons pe_str (pa_cons (pv 4) (pa_cons (pe_tup (pa_cons pe_str (pa_cons (pv 3) (pa_cons (pv 5) pa_nil)))) pa_nil)))) (pa_cons (pe_tup (pa_cons pe_str (pa_cons (pe_tup (pa_cons pe_str (pa_cons (pv 4) (pa_cons (pe_tup (pa_cons pe_str (pa_cons (pv 3) (pa_cons (pv 5) pa_nil)))) pa_nil)))) (pa_cons (pv 4) pa_nil)))) pa_nil)))))
    (pss_one (ps_ret (pe_ix ix_list (pv 6) (pe_call G_law_digit (hr.mono (by omega)) rfl R_law_digit.m R_law_digit.k R_law_digit.b .nil pass0 (pa_cons (pv 0) (pa_cons (pe_ix ix_list (pe_lst (pa_cons pe_int (pa_cons pe_int (pa_cons pe_int pa_nil)))) (pe_call G_law_digit (hr.mono (by omega)) rfl R_law_digit.m R_law_digit.k R_law_digit.b .nil pass0 (pa_cons (pv 0) (pa_cons pe_int pa_nil))) (fun _ _ => rfl)) pa_nil))) (fun _ _ => rfl))))))))))), ?_⟩
  refine ⟨_, rfl, sz (by show 2 ≤ 100000; decide), fun p0 hp0 => ?_⟩
  have s0 := same_new hp0 (.tup [V.str "name", .str x])
  have g0 : TmB (upd H p0 (.tup [V.str "name", .str x])) 1 1 p0 := tb_nam hxW upd_same
  have t0 := ht.same s0
  have w0 := hw.but (but_same s0) ht
  have b0 : But1 tp H (upd H p0 (.tup [V.str "name", .str x])) := but_same s0
  generalize upd H p0 (.tup [V.str "name", .str x]) = H0 at g0 t0 w0 b0 ⊢
  refine ⟨_, rfl, _, rfl, tp, ar, xs, rfl, t0, w0, hx, Nat.le_refl _, fun a1 u1 H1 b1 t1 gs1 => ?_⟩
  have w1 := w0.but b1 t0
  refine ⟨_, rfl, _, rfl, tp, ar, xs, rfl, t1, w1, hx, Nat.le_refl _, fun a2 u2 H2 b2 t2 gs2 => ?_⟩
  have I : AdS H H2 tp p0 a1 a2 [] := ⟨(b0.trans b1).trans b2, t2, (g0.tk (tp_tk t0 b1)).tk (tp_tk t1 b2), ((gs1 fun _ => none).tb).tk (tp_tk t1 b2), (gs2 fun _ => none).tb, fun _ z => nomatch z⟩
  refine ⟨_, _, rfl, ?_⟩
  refine ⟨_, rfl, ?_⟩
  refine ⟨_, rfl, ?_⟩
  refine ⟨_, rfl, ?_⟩
  refine ⟨sz (by show 3 ≤ 100000; decide), fun t1 ht1 => ?_⟩
  have f_t1 := tb_new (h := .plus) (.inl rfl) I.g0 I.g1 ht1
  have s_t1 := same_new ht1 (.tup [V.str "plus", .ref p0, .ref a1])
  have I1 := I.two .plus (.inl rfl) I.g0 I.g1 ht1 (by decide) (by decide)
  refine ⟨_, rfl, ?_⟩
  refine ⟨_, rfl, ?_⟩
  refine ⟨sz (by show 3 ≤ 100000; decide), fun t2 ht2 => ?_⟩
  have f_t2 := tb_new (h := .plus) (.inl rfl) I1.g1 I1.g0 ht2
  have s_t2 := same_new ht2 (.tup [V.str "plus", .ref a1, .ref p0])
  have I2 := I1.two .plus (.inl rfl) I1.g1 I1.g0 ht2 (by decide) (by decide)
  refine ⟨_, rfl, ?_⟩
  refine ⟨_, rfl, ?_⟩
  refine ⟨sz (by show 3 ≤ 100000; decide), fun t3 ht3 => ?_⟩
  have f_t3 := tb_new (h := .less) (.inr rfl) I2.g0 I2.g1 ht3
  have s_t3 := same_new ht3 (.tup [V.str "less", .ref p0, .ref a1])
  have I3 := I2.two .less (.inr rfl) I2.g0 I2.g1 ht3 (by decide) (by decide)
  refine ⟨_, rfl, ?_⟩
  refine ⟨_, rfl, ?_⟩
  refine ⟨_, rfl, ?_⟩
  refine ⟨sz (by show 3 ≤ 100000; decide), fun t4 ht4 => ?_⟩
  have f_t4 := tb_new (h := .less) (.inr rfl) I3.g0 I3.g2 ht4
  have s_t4 := same_new ht4 (.tup [V.str "less", .ref p0, .ref a2])
  have I4 := I3.two .less (.inr rfl) I3.g0 I3.g2 ht4 (by decide) (by decide)
  refine ⟨sz (by show 3 ≤ 100000; decide), fun t5 ht5 => ?_⟩
  have f_t5 := tb_new (h := .plus) (.inl rfl) I4.g1 f_t4 ht5
  have s_t5 := same_new ht5 (.tup [V.str "plus", .ref a1, .ref t4])
  have I5 := I4.two .plus (.inl rfl) I4.g1 f_t4 ht5 (by decide) (by decide)
  refine ⟨sz (by show 5 ≤ 100000; decide), fun l0 hl0 => ?_⟩
  have s_l0 := same_new hl0 (.lst [V.ref p0, .ref t1, .ref t2, .ref t3, .ref t5])
  have I6 := I5.new hl0 (.lst [V.ref p0, .ref t1, .ref t2, .ref t3, .ref t5])
  have HL0 : ∀ K : Hp, upd K l0 (.lst [V.ref p0, .ref t1, .ref t2, .ref t3, .ref t5]) l0 = some (.lst [V.ref p0, .ref t1, .ref t2, .ref t3, .ref t5]) := fun K => upd_same
  refine ⟨_, rfl, ?_⟩
  refine ⟨_, rfl, ?_⟩
  refine ⟨_, rfl, ?_⟩
  refine ⟨sz (by show 3 ≤ 100000; decide), fun t6 ht6 => ?_⟩
  have f_t6 := tb_new (h := .plus) (.inl rfl) I6.g1 I6.g0 ht6
  have s_t6 := same_new ht6 (.tup [V.str "plus", .ref a1, .ref p0])
  have I7 := I6.two .plus (.inl rfl) I6.g1 I6.g0 ht6 (by decide) (by decide)
  have hL7 := s_t6 _ _ (HL0 _)
  refine ⟨_, rfl, ?_⟩
  refine ⟨sz (by show 3 ≤ 100000; decide), fun t7 ht7 => ?_⟩
  have f_t7 := tb_new (h := .less) (.inr rfl) f_t6 I7.g2 ht7
  have s_t7 := same_new ht7 (.tup [V.str "less", .ref t6, .ref a2])
  have I8 := I7.two .less (.inr rfl) f_t6 I7.g2 ht7 (by decide) (by decide)
  have hL8 := s_t7 _ _ hL7
  refine ⟨_, rfl, ?_⟩
  refine ⟨_, rfl, ?_⟩
  refine ⟨sz (by show 3 ≤ 100000; decide), fun t8 ht8 => ?_⟩
  have f_t8 := tb_new (h := .less) (.inr rfl) I8.g1 I8.g2 ht8
  have s_t8 := same_new ht8 (.tup [V.str "less", .ref a1, .ref a2])
  have I9 := I8.two .less (.inr rfl) I8.g1 I8.g2 ht8 (by decide) (by decide)
  have hL9 := s_t8 _ _ hL8
  refine ⟨_, rfl, ?_⟩
  refine ⟨sz (by show 3 ≤ 100000; decide), fun t9 ht9 => ?_⟩
  have f_t9 := tb_new (h := .plus) (.inl rfl) f_t8 I9.g0 ht9
  have s_t9 := same_new ht9 (.tup [V.str "plus", .ref t8, .ref p0])
  have I10 := I9.two .plus (.inl rfl) f_t8 I9.g0 ht9 (by decide) (by decide)
  have hL10 := s_t9 _ _ hL9
  refine ⟨sz (by show 2 ≤ 100000; decide), fun l1 hl1 => ?_⟩
  have s_l1 := same_new hl1 (.lst [V.ref t7, .ref t9])
  have I11 := I10.new hl1 (.lst [V.ref t7, .ref t9])
  have hL11 := s_l1 _ _ hL10
  refine ⟨l0, l1, _, _, rfl, rfl, hL11, upd_same, sz (by show 7 ≤ 100000; decide), fun c1 hc1 => ?_⟩
  have s_c1 := same_new hc1 (.lst ([V.ref p0, .ref t1, .ref t2, .ref t3, .ref t5] ++ [V.ref t7, .ref t9]))
  have I12 := I11.new hc1 (.lst ([V.ref p0, .ref t1, .ref t2, .ref t3, .ref t5] ++ [V.ref t7, .ref t9]))
  have HL1 : ∀ K : Hp, upd K c1 (.lst ([V.ref p0, .ref t1, .ref t2, .ref t3, .ref t5] ++ [V.ref t7, .ref t9])) c1 = some (.lst ([V.ref p0, .ref t1, .ref t2, .ref t3, .ref t5] ++ [V.ref t7, .ref t9])) := fun K => upd_same
  refine ⟨_, rfl, ?_⟩
  refine ⟨_, rfl, ?_⟩
  refine ⟨_, rfl, ?_⟩
  refine ⟨sz (by show 3 ≤ 100000; decide), fun t10 ht10 => ?_⟩
  have f_t10 := tb_new (h := .less) (.inr rfl) I12.g1 I12.g0 ht10
  have s_t10 := same_new ht10 (.tup [V.str "less", .ref a1, .ref p0])
  have I13 := I12.two .less (.inr rfl) I12.g1 I12.g0 ht10 (by decide) (by decide)
  have hL13 := s_t10 _ _ (HL1 _)
  refine ⟨_, rfl, ?_⟩
  refine ⟨_, rfl, ?_⟩
  refine ⟨sz (by show 3 ≤ 100000; decide), fun t11 ht11 => ?_⟩
  have f_t11 := tb_new (h := .plus) (.inl rfl) I13.g0 I13.g0 ht11
  have s_t11 := same_new ht11 (.tup [V.str "plus", .ref p0, .ref p0])
  have I14 := I13.two .plus (.inl rfl) I13.g0 I13.g0 ht11 (by decide) (by decide)
  have hL14 := s_t11 _ _ hL13
  refine ⟨_, rfl, ?_⟩
  refine ⟨_, rfl, ?_⟩
  refine ⟨_, rfl, ?_⟩
  refine ⟨_, rfl, ?_⟩
  refine ⟨sz (by show 3 ≤ 100000; decide), fun t12 ht12 => ?_⟩
  have f_t12 := tb_new (h := .less) (.inr rfl) I14.g2 I14.g0 ht12
  have s_t12 := same_new ht12 (.tup [V.str "less", .ref a2, .ref p0])
  have I15 := I14.two .less (.inr rfl) I14.g2 I14.g0 ht12 (by decide) (by decide)
  have hL15 := s_t12 _ _ hL14
  refine ⟨sz (by show 3 ≤ 100000; decide), fun t13 ht13 => ?_⟩
  have f_t13 := tb_new (h := .less) (.inr rfl) I15.g1 f_t12 ht13
  have s_t13 := same_new ht13 (.tup [V.str "less", .ref a1, .ref t12])
  have I16 := I15.two .less (.inr rfl) I15.g1 f_t12 ht13 (by decide) (by decide)
  have hL16 := s_t13 _ _ hL15
  refine ⟨sz (by show 4 ≤ 100000; decide), fun l2 hl2 => ?_⟩
  have s_l2 := same_new hl2 (.lst [V.ref t10, .ref t11, .ref a1, .ref t13])
  have I17 := I16.new hl2 (.lst [V.ref t10, .ref t11, .ref a1, .ref t13])
  have hL17 := s_l2 _ _ hL16
  refine ⟨c1, l2, _, _, rfl, rfl, hL17, upd_same, sz (by show 11 ≤ 100000; decide), fun c2 hc2 => ?_⟩
  have s_c2 := same_new hc2 (.lst (([V.ref p0, .ref t1, .ref t2, .ref t3, .ref t5] ++ [V.ref t7, .ref t9]) ++ [V.ref t10, .ref t11, .ref a1, .ref t13]))
  have I18 := I17.new hc2 (.lst (([V.ref p0, .ref t1, .ref t2, .ref t3, .ref t5] ++ [V.ref t7, .ref t9]) ++ [V.ref t10, .ref t11, .ref a1, .ref t13]))
  have HL2 : ∀ K : Hp, upd K c2 (.lst (([V.ref p0, .ref t1, .ref t2, .ref t3, .ref t5] ++ [V.ref t7, .ref t9]) ++ [V.ref t10, .ref t11, .ref a1, .ref t13])) c2 = some (.lst (([V.ref p0, .ref t1, .ref t2, .ref t3, .ref t5] ++ [V.ref t7, .ref t9]) ++ [V.ref t10, .ref t11, .ref a1, .ref t13])) := fun K => upd_same
  refine ⟨_, rfl, ?_⟩
  refine ⟨_, rfl, ?_⟩
  refine ⟨_, rfl, ?_⟩
  refine ⟨_, rfl, ?_⟩
  refine ⟨sz (by show 3 ≤ 100000; decide), fun t14 ht14 => ?_⟩
  have f_t14 := tb_new (h := .plus) (.inl rfl) I18.g0 I18.g2 ht14
  have s_t14 := same_new ht14 (.tup [V.str "plus", .ref p0, .ref a2])
  have I19 := I18.two .plus (.inl rfl) I18.g0 I18.g2 ht14 (by decide) (by decide)
  have hL19 := s_t14 _ _ (HL2 _)
  refine ⟨sz (by show 3 ≤ 100000; decide), fun t15 ht15 => ?_⟩
  have f_t15 := tb_new (h := .less) (.inr rfl) I19.g1 f_t14 ht15
  have s_t15 := same_new ht15 (.tup [V.str "less", .ref a1, .ref t14])
  have I20 := I19.two .less (.inr rfl) I19.g1 f_t14 ht15 (by decide) (by decide)
  have hL20 := s_t15 _ _ hL19
  refine ⟨_, rfl, ?_⟩
  refine ⟨_, rfl, ?_⟩
  refine ⟨_, rfl, ?_⟩
  refine ⟨sz (by show 3 ≤ 100000; decide), fun t16 ht16 => ?_⟩
  have f_t16 := tb_new (h := .plus) (.inl rfl) I20.g2 I20.g0 ht16
  have s_t16 := same_new ht16 (.tup [V.str "plus", .ref a2, .ref p0])
  have I21 := I20.two .plus (.inl rfl) I20.g2 I20.g0 ht16 (by decide) (by decide)
  have hL21 := s_t16 _ _ hL20
  refine ⟨sz (by show 3 ≤ 100000; decide), fun t17 ht17 => ?_⟩
  have f_t17 := tb_new (h := .less) (.inr rfl) I21.g1 f_t16 ht17
  have s_t17 := same_new ht17 (.tup [V.str "less", .ref a1, .ref t16])
  have I22 := I21.two .less (.inr rfl) I21.g1 f_t16 ht17 (by decide) (by decide)
  have hL22 := s_t17 _ _ hL21
  refine ⟨sz (by show 2 ≤ 100000; decide), fun l3 hl3 => ?_⟩
  have s_l3 := same_new hl3 (.lst [V.ref t15, .ref t17])
  have I23 := I22.new hl3 (.lst [V.ref t15, .ref t17])
  have hL23 := s_l3 _ _ hL22
  refine ⟨c2, l3, _, _, rfl, rfl, hL23, upd_same, sz (by show 13 ≤ 100000; decide), fun c3 hc3 => ?_⟩
  have s_c3 := same_new hc3 (.lst ((([V.ref p0, .ref t1, .ref t2, .ref t3, .ref t5] ++ [V.ref t7, .ref t9]) ++ [V.ref t10, .ref t11, .ref a1, .ref t13]) ++ [V.ref t15, .ref t17]))
  have I24 := I23.new hc3 (.lst ((([V.ref p0, .ref t1, .ref t2, .ref t3, .ref t5] ++ [V.ref t7, .ref t9]) ++ [V.ref t10, .ref t11, .ref a1, .ref t13]) ++ [V.ref t15, .ref t17]))
  have HL3 : ∀ K : Hp, upd K c3 (.lst ((([V.ref p0, .ref t1, .ref t2, .ref t3, .ref t5] ++ [V.ref t7, .ref t9]) ++ [V.ref t10, .ref t11, .ref a1, .ref t13]) ++ [V.ref t15, .ref t17])) c3 = some (.lst ((([V.ref p0, .ref t1, .ref t2, .ref t3, .ref t5] ++ [V.ref t7, .ref t9]) ++ [V.ref t10, .ref t11, .ref a1, .ref t13]) ++ [V.ref t15, .ref t17])) := fun K => upd_same
  refine ⟨_, rfl, ?_⟩
  refine ⟨_, rfl, ?_⟩
  refine ⟨_, rfl, ?_⟩
  refine ⟨_, rfl, ?_⟩
  refine ⟨sz (by show 3 ≤ 100000; decide), fun t18 ht18 => ?_⟩
  have f_t18 := tb_new (h := .less) (.inr rfl) I24.g0 I24.g2 ht18
  have s_t18 := same_new ht18 (.tup [V.str "less", .ref p0, .ref a2])
  have I25 := I24.two .less (.inr rfl) I24.g0 I24.g2 ht18 (by decide) (by decide)
  have hL25 := s_t18 _ _ (HL3 _)
  refine ⟨sz (by show 3 ≤ 100000; decide), fun t19 ht19 => ?_⟩
  have f_t19 := tb_new (h := .less) (.inr rfl) I25.g1 f_t18 ht19
  have s_t19 := same_new ht19 (.tup [V.str "less", .ref a1, .ref t18])
  have I26 := I25.two .less (.inr rfl) I25.g1 f_t18 ht19 (by decide) (by decide)
  have hL26 := s_t19 _ _ hL25
  refine ⟨_, rfl, ?_⟩
  refine ⟨_, rfl, ?_⟩
  refine ⟨_, rfl, ?_⟩
  refine ⟨sz (by show 3 ≤ 100000; decide), fun t20 ht20 => ?_⟩
  have f_t20 := tb_new (h := .plus) (.inl rfl) I26.g0 I26.g2 ht20
  have s_t20 := same_new ht20 (.tup [V.str "plus", .ref p0, .ref a2])
  have I27 := I26.two .plus (.inl rfl) I26.g0 I26.g2 ht20 (by decide) (by decide)
  have hL27 := s_t20 _ _ hL26
  refine ⟨sz (by show 3 ≤ 100000; decide), fun t21 ht21 => ?_⟩
  have f_t21 := tb_new (h := .less) (.inr rfl) I27.g1 f_t20 ht21
  have s_t21 := same_new ht21 (.tup [V.str "less", .ref a1, .ref t20])
  have I28 := I27.two .less (.inr rfl) I27.g1 f_t20 ht21 (by decide) (by decide)
  have hL28 := s_t21 _ _ hL27
  refine ⟨_, rfl, ?_⟩
  refine ⟨sz (by show 3 ≤ 100000; decide), fun t22 ht22 => ?_⟩
  have f_t22 := tb_new (h := .plus) (.inl rfl) f_t21 I28.g1 ht22
  have s_t22 := same_new ht22 (.tup [V.str "plus", .ref t21, .ref a1])
  have I29 := I28.two .plus (.inl rfl) f_t21 I28.g1 ht22 (by decide) (by decide)
  have hL29 := s_t22 _ _ hL28
  refine ⟨sz (by show 2 ≤ 100000; decide), fun l4 hl4 => ?_⟩
  have s_l4 := same_new hl4 (.lst [V.ref t19, .ref t22])
  have I30 := I29.new hl4 (.lst [V.ref t19, .ref t22])
  have hL30 := s_l4 _ _ hL29
  refine ⟨c3, l4, _, _, rfl, rfl, hL30, upd_same, sz (by show 15 ≤ 100000; decide), fun c4 hc4 => ?_⟩
  have s_c4 := same_new hc4 (.lst (((([V.ref p0, .ref t1, .ref t2, .ref t3, .ref t5] ++ [V.ref t7, .ref t9]) ++ [V.ref t10, .ref t11, .ref a1, .ref t13]) ++ [V.ref t15, .ref t17]) ++ [V.ref t19, .ref t22]))
  have I31 := I30.new hc4 (.lst (((([V.ref p0, .ref t1, .ref t2, .ref t3, .ref t5] ++ [V.ref t7, .ref t9]) ++ [V.ref t10, .ref t11, .ref a1, .ref t13]) ++ [V.ref t15, .ref t17]) ++ [V.ref t19, .ref t22]))
  have HL4 : ∀ K : Hp, upd K c4 (.lst (((([V.ref p0, .ref t1, .ref t2, .ref t3, .ref t5] ++ [V.ref t7, .ref t9]) ++ [V.ref t10, .ref t11, .ref a1, .ref t13]) ++ [V.ref t15, .ref t17]) ++ [V.ref t19, .ref t22])) c4 = some (.lst (((([V.ref p0, .ref t1, .ref t2, .ref t3, .ref t5] ++ [V.ref t7, .ref t9]) ++ [V.ref t10, .ref t11, .ref a1, .ref t13]) ++ [V.ref t15, .ref t17]) ++ [V.ref t19, .ref t22])) := fun K => upd_same
  refine ⟨_, rfl, _, rfl, sz (by show 3 ≤ 100000; decide), fun pm hpm => ?_⟩
  have s_pm := same_new hpm (.lst [V.int 7, .int 7, .int 15])
  have J := I31.new hpm (.lst [V.int 7, .int 7, .int 15])
  have HF := s_pm _ _ (HL4 _)
  have npt : pm ≠ tp := by
    obtain ⟨z, hz⟩ := I31.t
    exact (ne_of_none hz hpm).symm
  refine ⟨_, rfl, tp, 3, rfl, J.t, by decide, by decide, fun r5 H5 r50 r51 b5 tt5 => ?_⟩
  have hme : ∃ m : Int, atI [V.int 7, .int 7, .int 15] r5 = some (.int m) ∧ 1 ≤ m ∧ m ≤ 15 := by
    obtain ⟨v, hv, hm⟩ := at_some (xs := [V.int 7, .int 7, .int 15]) r50 r51
    simp only [List.mem_cons, List.not_mem_nil, or_false] at hm
    rcases hm with z | z | z <;> subst z <;> exact ⟨_, hv, by decide, by decide⟩
  obtain ⟨m, hma, hm1, hm2⟩ := hme
  refine ⟨pm, _, _, _, rfl, rfl, SqL.of (b5 _ _ npt upd_same), hma, ?_⟩
  refine ⟨tp, m, rfl, tt5, by omega, by omega, fun r6 H6 r60 r61 b6 tt6 => ?_⟩
  have ncp : c4 ≠ tp := by
    obtain ⟨z, hz⟩ := J.t
    exact ne_of HF hz (fun z => by simp at z)
  have HF6 := b6 _ _ ncp (b5 _ _ ncp HF)
  obtain ⟨v, hv, hm⟩ := at_some (xs := (((([V.ref p0, .ref t1, .ref t2, .ref t3, .ref t5] ++ [V.ref t7, .ref t9]) ++ [V.ref t10, .ref t11, .ref a1, .ref t13]) ++ [V.ref t15, .ref t17]) ++ [V.ref t19, .ref t22])) r60 (by show r6 < 15; omega)
  have FN := J.fin b5 tt5 b6 tt6 q
  refine ⟨c4, _, _, _, rfl, rfl, SqL.of HF6, hv, ?_⟩
  simp only [List.mem_append, List.mem_cons, List.not_mem_nil, or_false] at hm
  rcases hm with ((((z | z | z | z | z) | z | z) | z | z | z | z) | z | z) | z | z
  all_goals rw [z]
  all_goals first
    | exact FN.2.1
    | exact FN.2.2
    | exact FN.1 _ (by simp)
end
end KB

namespace KB
open PySem L2

abbrev kgO : Key := Sum.inr "own"
abbrev kgI : Key := Sum.inr "wild"
def klT (el hd wl pl : Addr) (own : Str) (wild : Int) : List (Key × V) := [(kgE, .ref el), (kgH, .ref hd), (kgW, .ref wl), (kgP, .ref pl), (kgO, .str own), (kgI, .int wild)]
/-- what the generator of laid parts has at hand -/
structure GL (H : Hp) (tp kd wl pl : Addr) (ws js : List Str) : Prop where
  t : Tp H tp
  w : Wls H wl ws
  p : Wls H pl js
  wn : ws.length ≤ 100
  pn : js.length ≤ 100
  wp : wl ≠ pl
  k : ∃ el hd fs kvs own wild, H kd = some (.dK (klT el hd wl pl own wild)) ∧ 1 ≤ wild ∧ wild ≤ 3 ∧ own ∈ fs ∧ el ≠ wl ∧ el ≠ pl ∧ Wls H el fs ∧ 0 < fs.length ∧ fs.length ≤ 100 ∧ H hd = some (.dK kvs) ∧ ∀ f ∈ fs, ∃ n : Int, valV kvs (Sum.inr f) = some (.int n) ∧ 0 ≤ n ∧ n ≤ 4
section
variable {H H' : Hp} {tp kd wl pl : Addr} {ws js ws' js' : List Str}
theorem GL.ntk (g : GL H tp kd wl pl ws js) {a : Addr} {o : HO} (h : H a = some o) (hn : ∀ xs, o ≠ .lst xs) : a ≠ tp ∧ a ≠ wl ∧ a ≠ pl := by
  obtain ⟨z, hz⟩ := g.t
  exact ⟨ne_of h hz (hn _), ne_of h g.w.1 (hn _), ne_of h g.p.1 (hn _)⟩
theorem GL.tk (g : GL H tp kd wl pl ws js) (b : But3 tp wl pl H H') : TK H H' := fun a _ h => by
  obtain ⟨n1, n2, n3⟩ := g.ntk h (fun _ z => nomatch z)
  exact b a _ n1 n2 n3 h
theorem GL.step (g : GL H tp kd wl pl ws js) (b : But3 tp wl pl H H') (t : Tp H' tp) (w : Wls H' wl ws') (p : Wls H' pl js') (wn : ws'.length ≤ 100) (pn : js'.length ≤ 100) : GL H' tp kd wl pl ws' js' := by
  obtain ⟨el, hd, fs, kvs, own, wild, k1, r1, r2, r3, k2, k2', k3, k4, k5, k6, k7⟩ := g.k
  refine ⟨t, w, p, wn, pn, g.wp, el, hd, fs, kvs, own, wild, ?_, r1, r2, r3, k2, k2', ⟨b _ _ (wls_tp k3.1 g.t) k2 k2' k3.1, k3.2⟩, k4, k5, ?_, k7⟩
  · obtain ⟨n1, n2, n3⟩ := g.ntk k1 (fun _ z => nomatch z)
    exact b _ _ n1 n2 n3 k1
  · obtain ⟨n1, n2, n3⟩ := g.ntk k6 (fun _ z => nomatch z)
    exact b _ _ n1 n2 n3 k6
theorem GL.one (g : GL H tp kd wl pl ws js) (b : But1 tp H H') (t : Tp H' tp) : GL H' tp kd wl pl ws js := g.step b.three t (g.w.but b g.t) (g.p.but b g.t) g.wn g.pn
theorem GL.same (g : GL H tp kd wl pl ws js) (e : Same H H') : GL H' tp kd wl pl ws js := g.one (but_same e) (g.t.same e)
theorem Wls.threeL {a : Addr} {xs : List Str} (e : But3 tp wl pl H H') (g : GL H tp kd wl pl ws js) (n : a ≠ wl) (m : a ≠ pl) (h : Wls H a xs) : Wls H' a xs := ⟨e _ _ (wls_tp h.1 g.t) n m h.1, h.2⟩
theorem GL.new (g : GL H tp kd wl pl ws js) {p : Addr} (h : H p = none) : p ≠ tp ∧ p ≠ wl ∧ p ≠ pl := by
  obtain ⟨z, hz⟩ := g.t
  exact ⟨(ne_of_none hz h).symm, (ne_of_none g.w.1 h).symm, (ne_of_none g.p.1 h).symm⟩
variable {el hd : Addr} {own : Str} {wild : Int}
theorem gl_errands (h : H kd = some (.dK (klT el hd wl pl own wild))) : DGet H kd (.str "errands") (some (.ref el)) := DGet.k (k := kgE) h
theorem gl_heads (h : H kd = some (.dK (klT el hd wl pl own wild))) : DGet H kd (.str "heads") (some (.ref hd)) := DGet.k (k := kgH) h
theorem gl_words (h : H kd = some (.dK (klT el hd wl pl own wild))) : DGet H kd (.str "words") (some (.ref wl)) := DGet.k (k := kgW) h
theorem gl_posts (h : H kd = some (.dK (klT el hd wl pl own wild))) : DGet H kd (.str "posts") (some (.ref pl)) := DGet.k (k := kgP) h
theorem gl_own (h : H kd = some (.dK (klT el hd wl pl own wild))) : DGet H kd (.str "own") (some (.str own)) := DGet.k (k := kgO) h
theorem gl_wild (h : H kd = some (.dK (klT el hd wl pl own wild))) : DGet H kd (.str "wild") (some (.int wild)) := DGet.k (k := kgI) h
end
section
variable {P : Program} {w : World} {K : PySem.W.Frag} {mg : Str → Option Value} {base : Heap}
/-! ### _law_laid_ask -/
def spLAsk : Sp := fun vs H Q _ => ∃ (tp kd wl pl ar : Addr) (ws js xs : List Str), vs = [.ref tp, .ref kd, .ref ar] ∧ GL H tp kd wl pl ws js ∧ Wls H ar xs ∧ xs.length ≤ 1000 ∧
  ∀ r q f vs ts H', But1 tp H H' → Tp H' tp → H' r = some (.tup [.str f, .ref q]) → H' q = some (.tup vs) → All2 (RefV H') ts vs → isW f = true → ts.length ≤ 4 → (∀ t ∈ ts, LTm t) → Q (.ref r) H'
abbrev s_law_laid_ask : Stmt := top 34
theorem scLlaid_ask : FnScope ["tape", "known", "around", "f", "some", "k"] ["tape", "known", "around"] (defScope s_law_laid_ask) := ⟨rfl, rfl, rfl, by decide +kernel, rfl, by decide +kernel, by decide +kernel⟩
theorem ok_lask (T : Txt K mg) {f fg fl fs : Addr} {fd gd ld sd : FuncData} (F : Fun K "_law_laid_ask" "_law_laid_ask" s_law_laid_ask f fd) (G_law_digit : FnOk P w K mg base CX0 1 fg gd ["tape", "many"] spDig) (R_law_digit : Ref K mg "_law_digit" fg gd ["tape", "many"])
    (G_law_less_one : FnOk P w K mg base CX0 1 fl ld ["around"] spLess) (R_law_less_one : Ref K mg "_law_less_one" fl ld ["around"])
    (G_law_simple : FnOk P w K mg base CX0 5 fs sd ["tape", "around", "deep"] (spSimple 1)) (R_law_simple : Ref K mg "_law_simple" fs sd ["tape", "around", "deep"]) : FnOk P w K mg base CX0 6 f fd ["tape", "known", "around"] spLAsk := by
  refine F.ok scLlaid_ask (fun vs H Q E h => ?_) (fun cdv A outer s H vs Q E hr h => ?_)
  · obtain ⟨tp, kd, wl, pl, ar, ws, js, xs, rfl, _⟩ := h
    rfl
  obtain ⟨tp, kd, wl, pl, ar, ws, js, xs, rfl, g, hw, hx, q⟩ := h
  refine ⟨_, (pss_cons (ps_set (i := 3) scLlaid_ask.nd rfl (Or.inl rfl) (pe_ix ix_list (pe_dget (hu_of hr) (pv 1) pe_str (fun _ _ => rfl)) (pe_call G_law_digit (hr.mono (by omega)) rfl R_law_digit.m R_law_digit.k R_law_digit.b .nil pass0 (pa_cons (pv 0) (pa_cons (pe_callB call_len_seq (by rfl) T.m_len PySem.boot_len (pa_cons (pe_dget (hu_of hr) (pv 1) pe_str (fun _ _ => rfl)) pa_nil)) pa_nil))) (fun _ _ => rfl)))
    (Evl.pss_cut (ps_if (pt_cmpR op_eq (pe_call G_law_digit (hr.mono (by omega)) rfl R_law_digit.m R_law_digit.k R_law_digit.b .nil pass0 (pa_cons (pv 0) (pa_cons pe_int pa_nil))) pe_int (nomark _)) (pss_one (ps_set (i := 3) scLlaid_ask.nd rfl (Or.inl rfl) (pe_dget (hu_of hr) (pv 1) pe_str (fun _ _ => rfl)))) pss_nil)
    (pss_cons (ps_set (i := 4) scLlaid_ask.nd rfl (Or.inl rfl) (pe_lst pa_nil))
    (pss_cons (ps_for PassesOwn.never rfl (pi_range1 rfl T.m_range (pa_cons (pe_dget (hu_of hr) (pe_dget (hu_of hr) (pv 1) pe_str (fun _ _ => rfl)) (pv 3) (fun _ _ => rfl)) pa_nil)) (pg_name (i := 5) scLlaid_ask.nd rfl (Or.inl rfl)) (pss_one (ps_if (PW.pt (pw_and (pt_cmpR op_eq (pv 5) pe_int (nomark _)) (pw_and1 (pt_cmpR op_gt (pe_call G_law_digit (hr.mono (by omega)) rfl R_law_digit.m R_law_digit.k R_law_digit.b .nil pass0 (pa_cons (pv 0) (pa_cons pe_int pa_nil))) pe_int (nomark _))))) (pss_one (ps_expr (pe_bm PySem.F.plainAttrs_list PySem.F.slot_list_append PySem.F.type_list_append mt_append (pv 4) (pa_cons (pe_call G_law_less_one (hr.mono (by omega)) rfl R_law_less_one.m R_law_less_one.k R_law_less_one.b .nil pass0 (pa_cons (pv 2) pa_nil)) pa_nil)))) (pss_one (ps_expr (pe_bm PySem.F.plainAttrs_list PySem.F.slot_list_append PySem.F.type_list_append mt_append (pv 4) (pa_cons (pe_call G_law_simple (hr.mono (by omega)) rfl R_law_simple.m R_law_simple.k R_law_simple.b .nil pass0 (pa_cons (pv 0) (pa_cons (pv 2) (pa_cons pe_int pa_nil)))) pa_nil)))))))
    (pss_one (ps_ret (pe_tup (pa_cons (pv 3) (pa_cons (pe_callTy call_tuple_of (by rfl) T.m_tuple (by decide +kernel) (pa_cons (pv 4) pa_nil)) pa_nil))))))))), ?_⟩
  obtain ⟨el, hd', fs, kvs, own, wild, k1, _, _, ho, _, _, k3, k4, k5, k6, k7⟩ := g.k
  refine ⟨_, rfl, kd, _, rfl, gl_errands k1, _, rfl, _, rfl, kd, _, rfl, gl_errands k1, el, _, rfl, .inl (SqL.of k3.1), tp, _, rfl, g.t, ?_, ?_, fun r H1 r0 r1 b1 t1 => ?_⟩
  · rw [List.length_map]
    omega
  · rw [List.length_map]
    omega
  have k3' := k3.but b1 g.t
  have nkt := (g.ntk k1 (fun _ z => nomatch z)).1
  have nht := (g.ntk k6 (fun _ z => nomatch z)).1
  obtain ⟨v, hv, hm⟩ := at_some r0 r1
  obtain ⟨fn0, hfn0, rfl⟩ := List.mem_map.mp hm
  refine ⟨el, _, _, _, rfl, rfl, SqL.of k3'.1, hv, ?_⟩
  refine ⟨fun σ' H' => ∃ fn, σ' = [some (.ref tp), some (.ref kd), some (.ref ar), some (.str fn), none, none] ∧ fn ∈ fs ∧ But1 tp H1 H' ∧ Tp H' tp, ?_, ?_⟩
  · refine ⟨_, rfl, tp, 2, rfl, t1, by decide, by decide, fun r3 H3 r30 r31 b3 t3 => ⟨rfl, _, rfl, ?_⟩⟩
    refine ite2 (fun c => ?_) (fun c => ?_)
    · exact ⟨_, rfl, kd, _, rfl, gl_own (b3 _ _ nkt (b1 _ _ nkt k1)), own, rfl, ho, b3, t3⟩
    · exact ⟨fn0, rfl, hfn0, b3, t3⟩
  rintro σ' H3 ⟨fn, rfl, hfn, b3, t3⟩
  obtain ⟨many, hmany, m0, m4⟩ := k7 fn hfn
  have hwfn := k3.2 fn hfn
  have b13 := b1.trans b3
  have w3 := hw.but b13 g.t
  refine ⟨sz (by show 0 ≤ 100000; decide), fun sl hsl => ?_⟩
  have s4 := same_new hsl (.lst [])
  have nst : sl ≠ tp := by
    obtain ⟨z, hz⟩ := t3
    exact (ne_of_none hz hsl).symm
  have b14 := b13.trans (but_same s4)
  have t4 := t3.same s4
  have h4 : upd H3 sl (.lst []) sl = some (.lst []) := upd_same
  have frS : H3 sl = none := hsl
  have w4 := w3.but (but_same s4) t3
  have sH4 : Same H3 (upd H3 sl (.lst [])) := s4
  generalize upd H3 sl (.lst []) = H4 at b14 t4 h4 w4 sH4 ⊢
  have nsar : ar ≠ sl := ne_of_none w3.1 frS
  refine ⟨_, rfl, kd, _, rfl, gl_heads (b14 _ _ nkt k1), _, rfl, hd', _, rfl, get_of (b14 _ _ nht k6) hmany, _, rfl, by omega, by omega, ?_⟩
  refine for_range (lo := 0) (n := many.toNat) (fun i σ H' => ∃ o7 vs ts, σ = [some (.ref tp), some (.ref kd), some (.ref ar), some (.str fn), some (.ref sl), o7] ∧ (∀ b o, b ≠ tp → b ≠ sl → H4 b = some o → H' b = some o) ∧ Tp H' tp ∧
    H' sl = some (.lst vs) ∧ All2 (RefV H') ts vs ∧ ts.length = i ∧ ∀ t ∈ ts, LTm t) ⟨_, [], [], rfl, fun _ _ _ _ z => z, t4, h4, trivial, rfl, fun _ z => nomatch z⟩ ?_ ?_
  · rintro i σ H5 hi ⟨o7, vs, ts, rfl, b5, t5, h5, k5s, hlen, hts⟩
    have w5 : Wls H5 ar xs := ⟨b5 _ _ (wls_tp w4.1 t4) nsar w4.1, w4.2⟩
    have hvl := k5s.len
    have put : ∀ (a : Addr) (t : Tm) (H6 : Hp), But1 tp H5 H6 → Tp H6 tp → At H6 t a → LTm t →
        ∃ l zs y, V.ref sl = .ref l ∧ [V.ref a] = [y] ∧ H6 l = some (.lst zs) ∧ zs.length < sizeLine ∧ ∃ o7 vs ts, ([some (.ref tp), some (.ref kd), some (.ref ar), some (.str fn), some (.ref sl), some (.int (0 + (i : Nat)))] : St) = [some (.ref tp), some (.ref kd), some (.ref ar), some (.str fn), some (.ref sl), o7] ∧
          (∀ b o, b ≠ tp → b ≠ sl → H4 b = some o → upd H6 l (.lst (zs ++ [y])) b = some o) ∧ Tp (upd H6 l (.lst (zs ++ [y]))) tp ∧ upd H6 l (.lst (zs ++ [y])) sl = some (.lst vs) ∧ All2 (RefV (upd H6 l (.lst (zs ++ [y])))) ts vs ∧ ts.length = i + 1 ∧ ∀ t ∈ ts, LTm t := by
      intro a t H6 b6 t6 at6 sm
      have h6 := b6 _ _ nst h5
      have tk6 := b6.tk t5
      have tkp : TK H6 (upd H6 sl (.lst (vs ++ [V.ref a]))) := tk_put h6
      refine ⟨sl, vs, .ref a, rfl, rfl, h6, Nat.lt_of_le_of_lt (m := 1000) (by omega) (by decide), _, vs ++ [.ref a], ts ++ [t], rfl, fun b o n1 n2 hb => ?_, ?_, upd_same, ?_, ?_, fun u hu => ?_⟩
      · rw [upd_ne n2]
        exact b6 _ _ n1 (b5 _ _ n1 n2 hb)
      · obtain ⟨z, hz⟩ := t6
        exact ⟨z, by rw [upd_ne nst.symm]; exact hz⟩
      · exact All2.app (k5s.imp fun _ _ z => (z.tk tk6).tk tkp) ⟨⟨a, rfl, at6.tk tkp⟩, trivial⟩
      · rw [List.length_append, hlen]
        rfl
      · rcases List.mem_append.mp hu with z | z
        · exact hts u z
        · rw [List.mem_singleton.mp z]
          exact sm
    refine ⟨_, rfl, rfl, _, rfl, ?_⟩
    by_cases c0 : V.int (0 + (i : Nat)) = V.int 0
    · refine itT (decide_eq_true c0) ⟨_, rfl, tp, 4, rfl, t5, by decide, by decide, fun r6 H6 r60 r61 b6 t6 => ?_⟩
      have h6 := b6 _ _ nst h5
      have w6 := w5.but b6 t5
      refine ⟨_, _, rfl, rfl, _, rfl, ?_⟩
      refine ite2 (fun c2 => ?_) (fun c2 => ?_)
      · refine ⟨_, rfl, .inl ⟨rfl, _, SqL.of h6⟩, _, rfl, ar, xs, rfl, w6, fun a t H7 s7 gd smp => ?_⟩
        exact put a t H7 (b6.trans (but_same s7)) (t6.same s7) (gd fun _ => none).at_ ⟨(gd fun _ => none).ok, smp, Nat.le_trans (gd fun _ => none).cn (by decide), (gd fun _ => none).dp.le (by decide)⟩
      · exact ⟨_, rfl, .inl ⟨rfl, _, SqL.of h6⟩, _, rfl, _, rfl, tp, ar, xs, rfl, t6, w6, hx, Nat.le_refl _, fun a t H7 b7 t7 gs => put a t H7 (b6.trans b7) t7 (gs fun _ => none).g.at_ (gs fun _ => none).lt⟩
    · refine itF (decide_eq_false c0) (iteF ?_)
      exact ⟨_, rfl, .inl ⟨rfl, _, SqL.of h5⟩, _, rfl, _, rfl, tp, ar, xs, rfl, t5, w5, hx, Nat.le_refl _, fun a t H7 b7 t7 gs => put a t H7 b7 t7 (gs fun _ => none).g.at_ (gs fun _ => none).lt⟩
  · rintro σ H5 ⟨o7, vs, ts, rfl, b5, t5, h5, k5s, hlen, hts⟩
    refine ⟨_, rfl, _, rfl, sl, _, rfl, .inl ⟨SqL.of h5, fun p6 hp6 => ⟨sz (by show 2 ≤ 100000; decide), fun p7 hp7 => ?_⟩⟩⟩
    have s6 := same_new hp6 (.tup vs)
    have s7 := same_new hp7 (.tup [V.str fn, .ref p6])
    have bE : But1 tp H (upd (upd H5 p6 (.tup vs)) p7 (.tup [V.str fn, .ref p6])) := fun b o nb hb => by
      have h3 := b13 b o nb hb
      exact s7 _ _ (s6 _ _ (b5 b o nb (ne_of_none h3 frS) (sH4 _ _ h3)))
    exact q p7 p6 fn vs ts _ bE ((t5.same s6).same s7) upd_same (s7 _ _ upd_same) (k5s.imp fun _ _ z => z.tk (tk_same (s6.trans s7))) hwfn (by omega) hts
end
end KB

namespace KB
open PySem L2

theorem lastV {xs : List V} {y : V} : (xs ++ [y])[(xs ++ [y]).length - 1]? = some y := by
  rw [List.length_append, List.length_singleton, Nat.add_sub_cancel, List.getElem?_append_right (Nat.le_refl _), Nat.sub_self]
  rfl
theorem dropV {xs : List V} {y : V} : (xs ++ [y]).dropLast = xs := List.dropLast_concat
theorem GL.popW {H : Hp} {tp kd wl pl : Addr} {ws js : List Str} {x : Str} (g : GL H tp kd wl pl (ws ++ [x]) js) : GL (upd H wl (.lst (ws.map V.str))) tp kd wl pl ws js ∧ But3 tp wl pl H (upd H wl (.lst (ws.map V.str))) := by
  have b : But3 tp wl pl H (upd H wl (.lst (ws.map V.str))) := fun b o _ n _ h => by rw [upd_ne n]; exact h
  have hn := wls_tp g.w.1 g.t
  obtain ⟨z, hz⟩ := g.t
  have wn := g.wn
  rw [List.length_append] at wn
  exact ⟨g.step b ⟨z, by rw [upd_ne hn.symm]; exact hz⟩ ⟨upd_same, fun y hy => g.w.2 y (List.mem_append_left _ hy)⟩ ⟨by rw [upd_ne g.wp.symm]; exact g.p.1, g.p.2⟩ (by omega) g.pn, b⟩
theorem GL.popP {H : Hp} {tp kd wl pl : Addr} {ws js : List Str} {x : Str} (g : GL H tp kd wl pl ws (js ++ [x])) : GL (upd H pl (.lst (js.map V.str))) tp kd wl pl ws js ∧ But3 tp wl pl H (upd H pl (.lst (js.map V.str))) := by
  have b : But3 tp wl pl H (upd H pl (.lst (js.map V.str))) := fun b o _ _ n h => by rw [upd_ne n]; exact h
  have hn := wls_tp g.p.1 g.t
  obtain ⟨z, hz⟩ := g.t
  have pn := g.pn
  rw [List.length_append] at pn
  exact ⟨g.step b ⟨z, by rw [upd_ne hn.symm]; exact hz⟩ ⟨by rw [upd_ne g.wp]; exact g.w.1, g.w.2⟩ ⟨upd_same, fun y hy => g.p.2 y (List.mem_append_left _ hy)⟩ g.wn (by omega), b⟩
theorem snoc_of {ws : List Str} (h : ws ≠ []) : ∃ r x, ws = r ++ [x] := ⟨ws.dropLast, ws.getLast h, (List.dropLast_concat_getLast h).symm⟩
theorem mapS {ws : List Str} {x : Str} : (ws ++ [x]).map V.str = ws.map V.str ++ [V.str x] := by
  rw [List.map_append]
  rfl
/-- what stands around a laid part that is to be drawn -/
structure PtL (H : Hp) (tp kd wl pl ar : Addr) (ws js xs : List Str) : Prop where
  g : GL H tp kd wl pl ws js
  w : Wls H ar xs
  a1 : ar ≠ wl
  a2 : ar ≠ pl
  wj : ws.length ≤ js.length
  l1 : xs.length + ws.length ≤ 200
/-- what is told of a laid part that was drawn -/
structure PlO (H H' : Hp) (tp kd wl pl : Addr) (ws js : List Str) (n : Nat) (a : Addr) (p : Pt) (ws' js' : List Str) : Prop where
  b : But3 tp wl pl H H'
  g : GL H' tp kd wl pl ws' js'
  wj : ws'.length ≤ js'.length
  e1 : ws'.length ≤ ws.length
  e2 : js'.length ≤ js.length
  at_ : PAt H' p a
  ok : okL p
  cn : pcnt p + 1 ≤ n
theorem PtL.step {H H' : Hp} {tp kd wl pl ar : Addr} {ws js ws' js' xs : List Str} (I : PtL H tp kd wl pl ar ws js xs) (b : But3 tp wl pl H H') (g : GL H' tp kd wl pl ws' js') (wj : ws'.length ≤ js'.length) (l1 : ws'.length ≤ ws.length) : PtL H' tp kd wl pl ar ws' js' xs := by
  have h1 := I.l1
  exact ⟨g, I.w.threeL b I.g I.a1 I.a2, I.a1, I.a2, wj, by omega⟩
theorem PtL.one {H H' : Hp} {tp kd wl pl ar : Addr} {ws js xs : List Str} (I : PtL H tp kd wl pl ar ws js xs) (b : But1 tp H H') (t : Tp H' tp) : PtL H' tp kd wl pl ar ws js xs := I.step b.three (I.g.one b t) I.wj (Nat.le_refl _)
theorem PtL.same {H H' : Hp} {tp kd wl pl ar : Addr} {ws js xs : List Str} (I : PtL H tp kd wl pl ar ws js xs) (s : Same H H') : PtL H' tp kd wl pl ar ws js xs := I.one (but_same s) (I.g.t.same s)
def tLEnd (K : PySem.W.Frag) (m : Nat) : TS :=
  tSeq (tIfS (tTest (tOp rEq (tCall spDig [] E0 (tCons (tVar 0) (tCons (tC (V.int 2)) tNil))) (tC (V.int 0)))) (tRet (tTup (tCons (tC (V.str "give")) (tCons (tC (V.str "home")) (tCons (tCall (spSimple 1) [] E0 (tCons (tVar 0) (tCons (tVar 2) (tCons (tC (V.int 1)) tNil)))) tNil))))) tNext)
    (tSeq (tAsg (tCall spLAsk [] E0 (tCons (tVar 0) (tCons (tVar 1) (tCons (tVar 2) tNil)))) (gTup K m (gCons (gName 5) (gCons (gName 6) gNil)))) (tRet (tTup (tCons (tC (V.str "ask")) (tCons (tVar 5) (tCons (tVar 6) (tCons (tC (V.str "home")) tNil)))))))
section
variable {P : Program} {w : World} {K : PySem.W.Frag} {mg : Str → Option Value} {base : Heap}
/-! ### _law_laid_part -/
def spLPart (n : Nat) : Sp := fun vs H Q _ => ∃ (tp kd wl pl ar : Addr) (ws js xs : List Str) (room : Int), vs = [.ref tp, .ref kd, .ref ar, .int room] ∧ PtL H tp kd wl pl ar ws js xs ∧ 1 ≤ room ∧ room ≤ n + 1 ∧ room ≤ 1000 ∧
  ∀ a p H' ws' js', PlO H H' tp kd wl pl ws js (2 * room.toNat) a p ws' js' → Q (.ref a) H'
def spLpPrev : Nat → Sp
  | 0 => fun _ _ _ _ => False
  | n + 1 => spLPart n
abbrev s_law_laid_part : Stmt := top 35
theorem scLlaid_part : FnScope ["tape", "known", "around", "room", "word", "f", "some", "choice", "one", "x", "j", "then"] ["tape", "known", "around", "room"] (defScope s_law_laid_part) := ⟨rfl, rfl, rfl, by decide +kernel, rfl, by decide +kernel, by decide +kernel⟩
theorem ok_lpart (T : Txt K mg) (n : Nat) {f fg fa fe fs : Addr} {fd gd ad ed sd : FuncData} (F : Fun K "_law_laid_part" "_law_laid_part" s_law_laid_part f fd) (G_law_digit : FnOk P w K mg base CX0 1 fg gd ["tape", "many"] spDig) (R_law_digit : Ref K mg "_law_digit" fg gd ["tape", "many"])
    (G_law_adding : FnOk P w K mg base CX0 6 fa ad ["tape", "around", "x"] spLAdd) (R_law_adding : Ref K mg "_law_adding" fa ad ["tape", "around", "x"]) (G_law_laid_ask : FnOk P w K mg base CX0 6 fe ed ["tape", "known", "around"] spLAsk) (R_law_laid_ask : Ref K mg "_law_laid_ask" fe ed ["tape", "known", "around"])
    (G_law_simple : FnOk P w K mg base CX0 5 fs sd ["tape", "around", "deep"] (spSimple 1)) (R_law_simple : Ref K mg "_law_simple" fs sd ["tape", "around", "deep"])
    (G_law_laid_part : FnOk P w K mg base CX0 (n + 6) f fd ["tape", "known", "around", "room"] (spLpPrev n)) (R_law_laid_part : Ref K mg "_law_laid_part" f fd ["tape", "known", "around", "room"]) : FnOk P w K mg base CX0 (n + 7) f fd ["tape", "known", "around", "room"] (spLPart n) := by
  refine F.ok scLlaid_part (fun vs H Q E h => ?_) (fun cdv A outer s H vs Q E hr h => ?_)
  · obtain ⟨tp, kd, wl, pl, ar, ws, js, xs, room, rfl, _⟩ := h
    rfl
  obtain ⟨tp, kd, wl, pl, ar, ws, js, xs, room, rfl, I, hr1, hr2, hr3, q⟩ := h
  refine ⟨_, (pss_cons (ps_set (i := 4) scLlaid_part.nd rfl (Or.inl rfl) (pe_ix ix_list (pe_lst (pa_cons pe_str (pa_cons pe_str (pa_cons pe_str (pa_cons pe_str (pa_cons pe_str (pa_cons pe_str (pa_cons pe_str (pa_cons pe_str pa_nil))))))))) (pe_call G_law_digit (hr.mono (by omega)) rfl R_law_digit.m R_law_digit.k R_law_digit.b .nil pass0 (pa_cons (pv 0) (pa_cons pe_int pa_nil))) (fun _ _ => rfl)))
    (Evl.pss_cut (ps_if (PW.pt (pw_or (pt_cmpR op_lt (pv 3) pe_int (nomark _)) (pw_or (pt_cmpR op_eq (pv 4) pe_str (nomark _)) (pw_or1 (PW.pt (pw_and (pt_cmpR op_ne (pv 4) pe_str (nomark _)) (pw_and1 (pt_cmpR (op_eqD hr.units) (pe_dget (hu_of hr) (pv 1) pe_str (fun _ _ => rfl)) (pe_lst pa_nil) (nomark _))))))))) (pss_cons (ps_if (pt_cmpR op_eq (pe_call G_law_digit (hr.mono (by omega)) rfl R_law_digit.m R_law_digit.k R_law_digit.b .nil pass0 (pa_cons (pv 0) (pa_cons pe_int pa_nil))) pe_int (nomark _)) (pss_one (ps_ret (pe_tup (pa_cons pe_str (pa_cons pe_str (pa_cons (pe_call G_law_simple (hr.mono (by omega)) rfl R_law_simple.m R_law_simple.k R_law_simple.b .nil pass0 (pa_cons (pv 0) (pa_cons (pv 2) (pa_cons pe_int pa_nil)))) pa_nil)))))) pss_nil)
    (pss_cons (ps_asg (pe_call G_law_laid_ask (hr.mono (by omega)) rfl R_law_laid_ask.m R_law_laid_ask.k R_law_laid_ask.b .nil pass0 (pa_cons (pv 0) (pa_cons (pv 1) (pa_cons (pv 2) pa_nil)))) (pg_tup rfl (pgs_cons (pg_name (i := 5) scLlaid_part.nd rfl (Or.inl rfl)) (pgs_cons (pg_name (i := 6) scLlaid_part.nd rfl (Or.inl rfl)) pgs_nil))))
    (pss_one (ps_ret (pe_tup (pa_cons pe_str (pa_cons (pv 5) (pa_cons (pv 6) (pa_cons pe_str pa_nil))))))))) pss_nil)
    (pss_cons (ps_if (pt_cmpR op_eq (pv 4) pe_str (nomark _)) (pss_cons (ps_set (i := 7) scLlaid_part.nd rfl (Or.inl rfl) (pe_call G_law_simple (hr.mono (by omega)) rfl R_law_simple.m R_law_simple.k R_law_simple.b .nil pass0 (pa_cons (pv 0) (pa_cons (pv 2) (pa_cons pe_int pa_nil)))))
    (pss_cons (ps_set (i := 8) scLlaid_part.nd rfl (Or.inl rfl) (pe_call G_law_laid_part (hr.mono (by omega)) rfl R_law_laid_part.m R_law_laid_part.k R_law_laid_part.b .nil pass0 (pa_cons (pv 0) (pa_cons (pv 1) (pa_cons (pv 2) (pa_cons (pe_op op_fdiv (pv 3) pe_int) pa_nil))))))
    (pss_one (ps_ret (pe_tup (pa_cons pe_str (pa_cons (pv 7) (pa_cons (pv 8) (pa_cons (pe_call G_law_laid_part (hr.mono (by omega)) rfl R_law_laid_part.m R_law_laid_part.k R_law_laid_part.b .nil pass0 (pa_cons (pv 0) (pa_cons (pv 1) (pa_cons (pv 2) (pa_cons (pe_op op_fdiv (pv 3) pe_int) pa_nil))))) pa_nil))))))))) pss_nil)
    (pss_cons (ps_set (i := 9) scLlaid_part.nd rfl (Or.inl rfl) (pe_bm0 PySem.F.plainAttrs_list PySem.F.slot_list_pop PySem.F.type_list_pop mt_pop (pe_dget (hu_of hr) (pv 1) pe_str (fun _ _ => rfl))))
    (pss_cons (ps_if (pt_cmpR op_ne (pv 4) pe_str (nomark _)) (pss_one (ps_ret (pe_tup (pa_cons (pv 4) (pa_cons (pv 9) (pa_cons (pe_call G_law_simple (hr.mono (by omega)) rfl R_law_simple.m R_law_simple.k R_law_simple.b .nil pass0 (pa_cons (pv 0) (pa_cons (pv 2) (pa_cons pe_int pa_nil)))) (pa_cons (pe_call G_law_laid_part (hr.mono (by omega)) rfl R_law_laid_part.m R_law_laid_part.k R_law_laid_part.b .nil pass0 (pa_cons (pv 0) (pa_cons (pv 1) (pa_cons (pe_op op_cat (pv 2) (pe_lst (pa_cons (pv 9) pa_nil))) (pa_cons (pe_op op_sub (pv 3) pe_int) pa_nil))))) pa_nil))))))) pss_nil)
    (pss_cons (ps_set (i := 10) scLlaid_part.nd rfl (Or.inl rfl) (pe_bm0 PySem.F.plainAttrs_list PySem.F.slot_list_pop PySem.F.type_list_pop mt_pop (pe_dget (hu_of hr) (pv 1) pe_str (fun _ _ => rfl))))
    (pss_cons (ps_asg (pe_call G_law_laid_ask (hr.mono (by omega)) rfl R_law_laid_ask.m R_law_laid_ask.k R_law_laid_ask.b .nil pass0 (pa_cons (pv 0) (pa_cons (pv 1) (pa_cons (pv 2) pa_nil)))) (pg_tup rfl (pgs_cons (pg_name (i := 5) scLlaid_part.nd rfl (Or.inl rfl)) (pgs_cons (pg_name (i := 6) scLlaid_part.nd rfl (Or.inl rfl)) pgs_nil))))
    (pss_cons (ps_set (i := 11) scLlaid_part.nd rfl (Or.inl rfl) (pe_tup (pa_cons pe_str (pa_cons pe_str (pa_cons (pe_call G_law_adding (hr.mono (by omega)) rfl R_law_adding.m R_law_adding.k R_law_adding.b .nil pass0 (pa_cons (pv 0) (pa_cons (pv 2) (pa_cons (pv 9) pa_nil)))) pa_nil)))))
    (Evl.pss_cut (ps_if (pt_cmpR op_gt (pe_call G_law_digit (hr.mono (by omega)) rfl R_law_digit.m R_law_digit.k R_law_digit.b .nil pass0 (pa_cons (pv 0) (pa_cons (pe_dget (hu_of hr) (pv 1) pe_str (fun _ _ => rfl)) pa_nil))) pe_int (nomark _)) (pss_one (ps_set (i := 11) scLlaid_part.nd rfl (Or.inl rfl) (pe_call G_law_laid_part (hr.mono (by omega)) rfl R_law_laid_part.m R_law_laid_part.k R_law_laid_part.b .nil pass0 (pa_cons (pv 0) (pa_cons (pv 1) (pa_cons (pe_op op_cat (pv 2) (pe_lst (pa_cons (pv 9) pa_nil))) (pa_cons (pe_op op_sub (pv 3) pe_int) pa_nil))))))) pss_nil)
    (pss_one (ps_ret (pe_tup (pa_cons pe_str (pa_cons (pv 10) (pa_cons (pv 9) (pa_cons (pv 11) (pa_cons (pe_tup (pa_cons pe_str (pa_cons (pv 5) (pa_cons (pv 6) (pa_cons (pv 10) pa_nil))))) pa_nil))))))))))))))))), ?_⟩
  have l1 := I.l1
  refine ⟨sz (by show 8 ≤ 100000; decide), fun p1 hp1 => ?_⟩
  have s1 := same_new hp1 (.lst [V.str "end", .str "tell", .str "let", .str "if", .str "if", .str "post", .str "post", .str "post"])
  have n1 := (I.g.new hp1).1
  have I1 := I.same s1
  refine ⟨_, rfl, tp, 8, rfl, I1.g.t, by decide, by decide, fun r H2 r0 r1 b2 t2 => ?_⟩
  obtain ⟨v, hv, hm⟩ := at_some (xs := [V.str "end", .str "tell", .str "let", .str "if", .str "if", .str "post", .str "post", .str "post"]) r0 r1
  have I2 := I1.one b2 t2
  have B2 : But3 tp wl pl H H2 := (but3_same s1).trans b2.three
  refine ⟨p1, _, _, _, rfl, rfl, SqL.of (b2 _ _ n1 upd_same), hv, ?_⟩
  have hcase : ∃ wd : Str, v = .str wd ∧ (wd = "end" ∨ wd = "if" ∨ wd = "post" ∨ wd = "tell" ∨ wd = "let") := by
    simp only [List.mem_cons, List.not_mem_nil, or_false] at hm
    rcases hm with z | z | z | z | z | z | z | z <;> exact ⟨_, z, by simp⟩
  clear hm hv
  obtain ⟨wd, rfl, hwd⟩ := hcase
  have endW : ∀ (M : St → Hp → Prop) (H1 : Hp), But3 tp wl pl H H1 → PtL H1 tp kd wl pl ar ws js xs → tLEnd K 2 { nx := M, rt := Q } [some (.ref tp), some (.ref kd), some (.ref ar), some (.int room), some (.str wd), none, none, none, none, none, none, none] H1 := by
    intro M H1 B1 I1
    refine ⟨_, rfl, tp, 2, rfl, I1.g.t, by decide, by decide, fun r H2 _ _ b2 t2 => ⟨rfl, _, rfl, ?_⟩⟩
    have I2 := I1.one b2 t2
    refine ite2 (fun c => ?_) (fun c => ?_)
    · refine ⟨_, rfl, _, rfl, tp, ar, xs, rfl, t2, I2.w, by omega, Nat.le_refl _, fun a t H3 b3 t3 gs => ⟨sz (by show 3 ≤ 100000; decide), fun p hp => ?_⟩⟩
      have s4 := same_new hp (.tup [V.str "give", .str "home", .ref a])
      have I3 := (I2.one b3 t3).same s4
      exact q p (.give "home" t) _ ws js ⟨((B1.trans b2.three).trans b3.three).trans (but3_same s4), I3.g, I3.wj, Nat.le_refl _, Nat.le_refl _, ⟨a, upd_same, ((gs fun _ => none).g.at_).mono s4⟩, ⟨rfl, (gs fun _ => none).lt⟩, by show 1 + 1 ≤ 2 * room.toNat; omega⟩
    · refine ⟨_, rfl, _, rfl, _, rfl, tp, kd, wl, pl, ar, ws, js, xs, rfl, I2.g, I2.w, by omega, fun r q' f' vs ts H3 b3 t3 h1 h2 h3 h4 h5 h6 => ?_⟩
      refine ⟨r, _, rfl, SqT.of h1, rfl, _, _, rfl, _, _, rfl, rfl, ?_⟩
      refine ⟨_, rfl, _, rfl, sz (by show 4 ≤ 100000; decide), fun p hp => ?_⟩
      have s4 := same_new hp (.tup [V.str "ask", .str f', .ref q', .str "home"])
      have I3 := (I2.one b3 t3).same s4
      exact q p (.ask f' ts "home") _ ws js ⟨((B1.trans b2.three).trans b3.three).trans (but3_same s4), I3.g, I3.wj, Nat.le_refl _, Nat.le_refl _, ⟨q', vs, upd_same, s4 _ _ h2, h3.imp fun _ _ z => z.tk (tk_same s4)⟩, ⟨rfl, h4, h5, h6⟩, by show 1 + 1 ≤ 2 * room.toNat; omega⟩
  refine ⟨fun σ' H' => σ' = [some (.ref tp), some (.ref kd), some (.ref ar), some (.int room), some (.str wd), none, none, none, none, none, none, none] ∧ But3 tp wl pl H H' ∧ PtL H' tp kd wl pl ar ws js xs ∧ 2 ≤ room ∧ wd ≠ "end" ∧ (wd = "if" ∨ ws ≠ []), ?_, ?_⟩
  · refine ⟨_, rfl, _, _, rfl, rfl, _, rfl, ?_⟩
    refine ite2 (fun c => iteT (endW _ H2 B2 I2)) (fun c => ?_)
    have hroom : 2 ≤ room := by
      have : ¬ room < 2 := fun z => c (decide_eq_true z)
      omega
    refine ⟨_, rfl, rfl, _, rfl, ?_⟩
    refine ite2 (fun c => iteT (endW _ H2 B2 I2)) (fun c2 => ?_)
    have hwe : wd ≠ "end" := fun z => c2 (decide_eq_true (by rw [z]))
    refine ⟨_, rfl, rfl, _, rfl, ?_⟩
    refine ite2 (fun c3 => ?_) (fun c3 => ?_)
    · obtain ⟨el, hd', fs', kvs, own, wild, k2, _⟩ := I2.g.k
      refine ⟨_, rfl, kd, _, rfl, gl_words k2, sz (by show 0 ≤ 100000; decide), fun p0 hp0 => ?_⟩
      have s3 := same_new hp0 (.lst [])
      refine ⟨.list (ws.map PyData.str), .list [], .lst (SqL.of (s3 _ _ I2.g.w.1)) (dp_strs ws), .lst (SqL.of upd_same) .nil, shaped_strs I2.g.w.2, rfl, _, rfl, ?_⟩
      rw [eqv_nil]
      have I3 := I2.same s3
      have B3 := B2.trans (but3_same (tp := tp) (wl := wl) (pl := pl) s3)
      generalize upd H2 p0 (.lst []) = H3 at I3 B3 ⊢
      cases ws with
      | nil => exact iteT (endW _ H3 B3 I3)
      | cons x0 xr => exact iteF ⟨rfl, B3, I3, hroom, hwe, .inr (fun z => nomatch z)⟩
    · have hif : wd = "if" := by
        by_cases h : wd = "if"
        · exact h
        · exact absurd (by rw [decide_eq_false (fun z => h (V.str.inj z))]; rfl) c3
      exact iteF ⟨rfl, B2, I2, hroom, hwe, .inl hif⟩
  clear endW I2 B2 I1 s1
  rintro σ' H3 ⟨rfl, B3, I3, hroom, hne, hor⟩
  obtain ⟨m, rfl⟩ : ∃ m, n = m + 1 := ⟨n - 1, by omega⟩
  by_cases hif : wd = "if"
  · subst hif
    refine ⟨_, rfl, rfl, _, rfl, itT rfl ?_⟩
    refine ⟨_, rfl, _, rfl, tp, ar, xs, rfl, I3.g.t, I3.w, by omega, Nat.le_refl _, fun a3 u3 H4 b4 t4 gs => ?_⟩
    have I4 := I3.one b4 t4
    refine ⟨_, rfl, _, rfl, _, rfl, _, rfl, _, _, rfl, rfl, ⟨by decide, by decide⟩, tp, kd, wl, pl, ar, ws, js, xs, room / 2, rfl, I4, by omega, by omega, by omega, fun a5 q5 H5 ws5 js5 O5 => ?_⟩
    have I5 := I4.step O5.b O5.g O5.wj O5.e1
    refine ⟨_, rfl, _, rfl, _, rfl, _, rfl, _, rfl, _, rfl, _, _, rfl, rfl, ⟨by decide, by decide⟩, tp, kd, wl, pl, ar, ws5, js5, xs, room / 2, rfl, I5, by omega, by omega, by omega, fun a6 q6 H6 ws6 js6 O6 => ?_⟩
    refine ⟨sz (by show 4 ≤ 100000; decide), fun p7 hp7 => ?_⟩
    have s7 := same_new hp7 (.tup [V.str "if", .ref a3, .ref a5, .ref a6])
    have k46 : TK H4 H6 := I4.g.tk (O5.b.trans O6.b)
    have k56 : TK H5 H6 := I5.g.tk O6.b
    refine q p7 (.iff u3 q5 q6) _ ws6 js6 ⟨(((B3.trans b4.three).trans O5.b).trans O6.b).trans (but3_same s7), O6.g.same s7, O6.wj, Nat.le_trans O6.e1 O5.e1, Nat.le_trans O6.e2 O5.e2, ⟨a3, a5, a6, upd_same, ((gs fun _ => none).g.at_.tk k46).mono s7, (O5.at_.tk k56).tk (tk_same s7), O6.at_.tk (tk_same s7)⟩, ⟨(gs fun _ => none).lt, O5.ok, O6.ok⟩, ?_⟩
    have c5 := O5.cn
    have c6 := O6.cn
    show 1 + pcnt q5 + pcnt q6 + 1 ≤ 2 * room.toNat
    omega
  have hws : ws ≠ [] := hor.resolve_left hif
  have hnif : decide (V.str wd = V.str (Str.ofString "if")) = false := decide_eq_false fun z => hif (V.str.inj z)
  refine ⟨_, rfl, rfl, _, rfl, itF hnif ?_⟩
  obtain ⟨el, hd', fs', kvs, own, wild, k3, wl1, wl2, _⟩ := I3.g.k
  obtain ⟨wsx, x, rfl⟩ := snoc_of hws
  have hxW : isW x = true := I.g.w.2 x (List.mem_append_right _ List.mem_cons_self)
  have gw := I3.g.w.1
  rw [mapS] at gw
  refine ⟨_, rfl, kd, _, rfl, gl_words k3, .inl ⟨rfl, _, SqL.of gw⟩, wl, _, _, rfl, rfl, gw, lastV, ?_⟩
  rw [dropV]
  obtain ⟨g4, b4⟩ := I3.g.popW
  have wj := I.wj
  rw [List.length_append] at wj l1
  have wj : wsx.length + 1 ≤ js.length := wj
  have l1 : xs.length + (wsx.length + 1) ≤ 200 := l1
  have lx : (wsx ++ [x]).length = wsx.length + 1 := by rw [List.length_append]; rfl
  have I4 := I3.step b4 g4 (by omega) (by omega)
  have B4 := B3.trans b4
  have k4 : (upd H3 wl (.lst (wsx.map V.str))) kd = some (.dK (klT el hd' wl pl own wild)) := by
    obtain ⟨n1, n2, n3⟩ := I3.g.ntk k3 (fun _ z => nomatch z)
    exact b4 _ _ n1 n2 n3 k3
  generalize upd H3 wl (.lst (wsx.map V.str)) = H4 at g4 b4 I4 B4 k4 ⊢
  -- what is around with one word more
  have moreW : ∀ {H5 : Hp} {ws5 js5 : List Str} (I5 : PtL H5 tp kd wl pl ar ws5 js5 xs) (hw5 : ws5.length ≤ wsx.length) {p6 p7 : Addr} (hp6 : H5 p6 = none) (hp7 : upd H5 p6 (.lst [V.str x]) p7 = none),
      PtL (upd (upd H5 p6 (.lst [V.str x])) p7 (.lst (xs.map V.str ++ [V.str x]))) tp kd wl pl p7 ws5 js5 (xs ++ [x]) := by
    intro H5 ws5 js5 I5 hw5 p6 p7 hp6 hp7
    have s6 := same_new hp6 (.lst [V.str x])
    have s7 := same_new hp7 (.lst (xs.map V.str ++ [V.str x]))
    have I7 := I5.same (s6.trans s7)
    have nn := (I5.same s6).g.new hp7
    refine ⟨I7.g, ⟨by rw [upd_same, mapS], fun y hy => ?_⟩, nn.2.1, nn.2.2, I7.wj, ?_⟩
    · rcases List.mem_append.mp hy with z | z
      · exact I.w.2 y z
      · rw [List.mem_singleton.mp z]
        exact hxW
    · rw [List.length_append, List.length_singleton]
      omega
  by_cases hpost : wd = "post"
  · subst hpost
    refine ⟨_, rfl, rfl, _, rfl, itF rfl ?_⟩
    obtain ⟨jsx, j, rfl⟩ := snoc_of (ws := js) (fun z => by rw [z] at wj; cases wj)
    have hjW : isW j = true := I.g.p.2 j (List.mem_append_right _ List.mem_cons_self)
    have lj : (jsx ++ [j]).length = jsx.length + 1 := by rw [List.length_append]; rfl
    have gp := I4.g.p.1
    rw [mapS] at gp
    refine ⟨_, rfl, kd, _, rfl, gl_posts k4, .inl ⟨rfl, _, SqL.of gp⟩, pl, _, _, rfl, rfl, gp, lastV, ?_⟩
    rw [dropV]
    obtain ⟨g5, b5⟩ := I4.g.popP
    have I5 := I4.step b5 g5 (by omega) (Nat.le_refl _)
    have B5 := B4.trans b5
    have k5 : (upd H4 pl (.lst (jsx.map V.str))) kd = some (.dK (klT el hd' wl pl own wild)) := by
      obtain ⟨n1, n2, n3⟩ := I4.g.ntk k4 (fun _ z => nomatch z)
      exact b5 _ _ n1 n2 n3 k4
    generalize upd H4 pl (.lst (jsx.map V.str)) = H5 at g5 b5 I5 B5 k5 ⊢
    have nkt : kd ≠ tp := (I5.g.ntk k5 (fun _ z => nomatch z)).1
    refine ⟨_, rfl, _, rfl, _, rfl, tp, kd, wl, pl, ar, wsx, jsx, xs, rfl, I5.g, I5.w, by omega, fun r6 q6 f6 vs6 ts6 H6 b6 t6 h61 h62 h63 h64 h65 h66 => ?_⟩
    have I6 := I5.one b6 t6
    refine ⟨r6, _, rfl, SqT.of h61, rfl, _, _, rfl, _, _, rfl, rfl, ?_⟩
    refine ⟨_, rfl, _, rfl, _, rfl, tp, ar, xs, x, rfl, t6, I6.w, by omega, hxW, fun a7 u7 H7 b7 t7 at7 lt7 => ⟨sz (by show 3 ≤ 100000; decide), fun p8 hp8 => ?_⟩⟩
    have s8 := same_new hp8 (.tup [V.str "give", .str "home", .ref a7])
    have I8 := (I6.one b7 t7).same s8
    have pa8 : PAt (upd H7 p8 (.tup [V.str "give", .str "home", .ref a7])) (.give "home" u7) p8 := ⟨a7, upd_same, at7.mono s8⟩
    have B58 : But3 tp wl pl H5 (upd H7 p8 (.tup [V.str "give", .str "home", .ref a7])) := (b6.three.trans b7.three).trans (but3_same s8)
    have k8 := s8 _ _ (b7 _ _ nkt (b6 _ _ nkt k5))
    have k68 : TK H6 (upd H7 p8 (.tup [V.str "give", .str "home", .ref a7])) := (tp_tk t6 b7).trans (tk_same s8)
    generalize upd H7 p8 (.tup [V.str "give", .str "home", .ref a7]) = H8 at I8 pa8 B58 k8 k68 ⊢
    refine ⟨fun σ' H' => ∃ a q9 ws9 js9, σ' = [some (.ref tp), some (.ref kd), some (.ref ar), some (.int room), some (.str "post"), some (.str f6), some (.ref q6), none, none, some (.str x), some (.str j), some (.ref a)] ∧ But3 tp wl pl H8 H' ∧ GL H' tp kd wl pl ws9 js9 ∧ ws9.length ≤ js9.length ∧ ws9.length ≤ wsx.length ∧ js9.length ≤ jsx.length ∧
      PAt H' q9 a ∧ okL q9 ∧ pcnt q9 + 1 ≤ 2 * (room - 1).toNat, ?_, ?_⟩
    · refine ⟨_, rfl, _, rfl, kd, _, rfl, gl_wild k8, tp, wild, rfl, I8.g.t, by omega, by omega, fun r9 H9 r90 r91 b9 t9 => ⟨_, _, rfl, rfl, _, rfl, ?_⟩⟩
      have I9 := I8.one b9 t9
      refine ite2 (fun c => ?_) (fun c => ?_)
      · refine ⟨_, rfl, _, rfl, _, rfl, _, rfl, sz (by show 1 ≤ 100000; decide), fun p10 hp10 => ?_⟩
        have s10 := same_new hp10 (.lst [V.str x])
        refine ⟨ar, p10, _, _, rfl, rfl, s10 _ _ I9.w.1, upd_same, sz (by rw [List.length_map]; show xs.length + 1 ≤ 100000; omega), fun p11 hp11 => ?_⟩
        have s11 := same_new hp11 (.lst (xs.map V.str ++ [V.str x]))
        have I11 := moreW I9 (Nat.le_refl _) hp10 hp11
        have s911 := s10.trans s11
        generalize upd (upd H9 p10 (.lst [V.str x])) p11 (.lst (xs.map V.str ++ [V.str x])) = H11 at I11 s911 ⊢
        refine ⟨_, rfl, _, _, rfl, rfl, tp, kd, wl, pl, p11, wsx, jsx, xs ++ [x], room - 1, rfl, I11, by omega, by omega, by omega, fun a12 q12 H12 ws12 js12 O => ?_⟩
        exact ⟨a12, q12, ws12, js12, rfl, (b9.three.trans (but3_same s911)).trans O.b, O.g, O.wj, O.e1, O.e2, O.at_, O.ok, O.cn⟩
      · exact ⟨p8, .give "home" u7, wsx, jsx, rfl, b9.three, I9.g, I9.wj, Nat.le_refl _, Nat.le_refl _, pa8.tk (tp_tk I8.g.t b9), ⟨rfl, lt7⟩, by show 1 + 1 ≤ 2 * (room - 1).toNat; omega⟩
    rintro σ9 H9 ⟨a9, q9, ws9, js9, rfl, b9, g9, wj9, e91, e92, pa9, ok9, cn9⟩
    refine ⟨_, rfl, _, rfl, _, rfl, _, rfl, _, rfl, _, rfl, sz (by show 4 ≤ 100000; decide), fun p10 hp10 => ⟨sz (by show 5 ≤ 100000; decide), fun p11 hp11 => ?_⟩⟩
    have s10 := same_new hp10 (.tup [V.str "ask", .str f6, .ref q6, .str j])
    have s11 := same_new hp11 (.tup [V.str "post", .str j, .str x, .ref a9, .ref p10])
    have s1011 := s10.trans s11
    have k69 := k68.trans (I8.g.tk b9)
    have k611 := k69.trans (tk_same s1011)
    have BE : But3 tp wl pl H _ := ((B5.trans B58).trans b9).trans (but3_same s1011)
    refine q p11 (.post j x q9 (.ask f6 ts6 j)) _ ws9 js9 ⟨BE, g9.same s1011, wj9, by omega, by omega, ⟨a9, p10, upd_same, pa9.tk (tk_same s1011), ⟨q6, vs6, s11 _ _ upd_same, k611 _ _ h62, h63.imp fun _ _ z => z.tk k611⟩⟩, ⟨hjW, hxW, ok9, rfl, h64, h65, h66⟩, ?_⟩
    show 1 + pcnt q9 + 1 + 1 ≤ 2 * room.toNat
    omega
  · have hnp : decide (V.str wd = V.str (Str.ofString "post")) = false := decide_eq_false fun z => hpost (V.str.inj z)
    have hwd2 : wd = "tell" ∨ wd = "let" := by
      rcases hwd with z | z | z | z
      · exact absurd z hne
      · exact absurd z hif
      · exact absurd z hpost
      · exact z
    refine ⟨_, rfl, rfl, _, rfl, itT (by rw [hnp]; rfl) ?_⟩
    refine ⟨_, rfl, _, rfl, _, rfl, _, rfl, tp, ar, xs, rfl, I4.g.t, I4.w, by omega, Nat.le_refl _, fun a5 u5 H5 b5 t5 gs => ?_⟩
    have I5 := I4.one b5 t5
    refine ⟨_, rfl, _, rfl, _, rfl, _, rfl, sz (by show 1 ≤ 100000; decide), fun p7 hp7 => ?_⟩
    have s7 := same_new hp7 (.lst [V.str x])
    refine ⟨ar, p7, _, _, rfl, rfl, s7 _ _ I5.w.1, upd_same, sz (by rw [List.length_map]; show xs.length + 1 ≤ 100000; omega), fun p8 hp8 => ?_⟩
    have s8 := same_new hp8 (.lst (xs.map V.str ++ [V.str x]))
    have I8 := moreW I5 (Nat.le_refl _) hp7 hp8
    have s58 := s7.trans s8
    generalize upd (upd H5 p7 (.lst [V.str x])) p8 (.lst (xs.map V.str ++ [V.str x])) = H8 at I8 s58 ⊢
    refine ⟨_, rfl, _, _, rfl, rfl, tp, kd, wl, pl, p8, wsx, js, xs ++ [x], room - 1, rfl, I8, by omega, by omega, by omega, fun a9 q9 H9 ws9 js9 O9 => ?_⟩
    refine ⟨sz (by show 4 ≤ 100000; decide), fun p14 hp14 => ?_⟩
    have s14 := same_new hp14 (.tup [V.str wd, .str x, .ref a5, .ref a9])
    have k59 : TK H5 H9 := (tk_same s58).trans (I8.g.tk O9.b)
    have BE : But3 tp wl pl H H9 := ((B4.trans b5.three).trans (but3_same s58)).trans O9.b
    have hatT := ((gs fun _ => none).g.at_.tk k59).tk (tk_same s14)
    have hatP := O9.at_.tk (tk_same s14)
    have e1 : ws9.length ≤ (wsx ++ [x]).length := by
      have := O9.e1
      omega
    have hc : 1 + pcnt q9 + 1 ≤ 2 * room.toNat := by
      have := O9.cn
      omega
    rcases hwd2 with rfl | rfl
    · exact q p14 (.tell x u5 q9) _ ws9 js9 ⟨BE.trans (but3_same s14), O9.g.same s14, O9.wj, e1, O9.e2, ⟨a5, a9, upd_same, hatT, hatP⟩, ⟨hxW, (gs fun _ => none).lt, O9.ok⟩, hc⟩
    · exact q p14 (.lett x u5 q9) _ ws9 js9 ⟨BE.trans (but3_same s14), O9.g.same s14, O9.wj, e1, O9.e2, ⟨a5, a9, upd_same, hatT, hatP⟩, ⟨hxW, (gs fun _ => none).lt, O9.ok⟩, hc⟩
theorem all_lpart (T : Txt K mg) {f fg fa fe fs : Addr} {fd gd ad ed sd : FuncData} (F : Fun K "_law_laid_part" "_law_laid_part" s_law_laid_part f fd) (G_law_digit : FnOk P w K mg base CX0 1 fg gd ["tape", "many"] spDig) (R_law_digit : Ref K mg "_law_digit" fg gd ["tape", "many"])
    (G_law_adding : FnOk P w K mg base CX0 6 fa ad ["tape", "around", "x"] spLAdd) (R_law_adding : Ref K mg "_law_adding" fa ad ["tape", "around", "x"]) (G_law_laid_ask : FnOk P w K mg base CX0 6 fe ed ["tape", "known", "around"] spLAsk) (R_law_laid_ask : Ref K mg "_law_laid_ask" fe ed ["tape", "known", "around"])
    (G_law_simple : FnOk P w K mg base CX0 5 fs sd ["tape", "around", "deep"] (spSimple 1)) (R_law_simple : Ref K mg "_law_simple" fs sd ["tape", "around", "deep"])
    (R_law_laid_part : Ref K mg "_law_laid_part" f fd ["tape", "known", "around", "room"]) : ∀ n : Nat, FnOk P w K mg base CX0 (n + 7) f fd ["tape", "known", "around", "room"] (spLPart n)
  | 0 => ok_lpart T 0 F G_law_digit R_law_digit G_law_adding R_law_adding G_law_laid_ask R_law_laid_ask G_law_simple R_law_simple no_sp R_law_laid_part
  | n + 1 => ok_lpart T (n + 1) F G_law_digit R_law_digit G_law_adding R_law_adding G_law_laid_ask R_law_laid_ask G_law_simple R_law_simple (all_lpart T F G_law_digit R_law_digit G_law_adding R_law_adding G_law_laid_ask R_law_laid_ask G_law_simple R_law_simple R_law_laid_part n) R_law_laid_part
end
end KB

namespace KB
open PySem L2

/-- an errand of a laid book -/
structure GdLE (e : TEr) : Prop where
  w : isW e.1 = true
  ws : ∀ x ∈ e.2.1, isW x = true
  ok : okL e.2.2
  cn : pcnt e.2.2 ≤ 11
structure GdLB (es : List TEr) : Prop where
  len : 1 ≤ es.length ∧ es.length ≤ 6
  nd : (es.map (·.1)).Nodup
  er : ∀ e ∈ es, GdLE e
def klT4 (el hd wl pl : Addr) : List (Key × V) := [(kgE, .ref el), (kgH, .ref hd), (kgW, .ref wl), (kgP, .ref pl)]
theorem merge_kl4 (el hd wl pl : Addr) : mergeK [] (klT4 el hd wl pl) = klT4 el hd wl pl := rfl
section
variable {P : Program} {w : World} {K : PySem.W.Frag} {mg : Str → Option Value} {base : Heap}
/-! ### _law_laid_book -/
def spLBook (K : PySem.W.Frag) : Sp := fun vs H Q _ => ∃ (sc : Addr) (ns : List Int) (start : Int), vs = [.ref sc, .int start] ∧ SqL K H sc (ns.map V.int) ∧ 0 ≤ start ∧ start ≤ 100 ∧ ∀ p es us H', Same H H' → TBkAt H' es us p → GdLB es → Q (.ref p) H'
abbrev s_law_laid_book : Stmt := top 36
theorem scLlaid_book : FnScope ["script", "start", "head", "errands", "heads", "f", "wild", "found", "k", "tape", "words", "names", "known", "body"] ["script", "start"] (defScope s_law_laid_book) := ⟨rfl, rfl, rfl, by decide +kernel, rfl, by decide +kernel, by decide +kernel⟩
theorem ok_lbook (T : Txt K mg) {f fg ft fw fb fs : Addr} {fd gd td wd bd sd : FuncData} (F : Fun K "_law_laid_book" "_law_laid_book" s_law_laid_book f fd) (G_law_digit : FnOk P w K mg base CX0 1 fg gd ["tape", "many"] spDig) (R_law_digit : Ref K mg "_law_digit" fg gd ["tape", "many"])
    (G_law_tape : FnOk P w K mg base CX0 2 ft td ["script", "k"] (spTape K)) (R_law_tape : Ref K mg "_law_tape" ft td ["script", "k"]) (G_law_words : FnOk P w K mg base CX0 2 fw wd ["tape", "many"] spWords) (R_law_words : Ref K mg "_law_words" fw wd ["tape", "many"])
    (G_law_simple : FnOk P w K mg base CX0 5 fs sd ["tape", "around", "deep"] (spSimple 1)) (R_law_simple : Ref K mg "_law_simple" fs sd ["tape", "around", "deep"])
    (G_law_laid_part : FnOk P w K mg base CX0 11 fb bd ["tape", "known", "around", "room"] (spLPart 4)) (R_law_laid_part : Ref K mg "_law_laid_part" fb bd ["tape", "known", "around", "room"]) : FnOk P w K mg base CX0 12 f fd ["script", "start"] (spLBook K) := by
  refine F.ok scLlaid_book (fun vs H Q E h => ?_) (fun cdv A outer s H vs Q E hr h => ?_)
  · obtain ⟨sc, ns, start, rfl, _⟩ := h
    rfl
  obtain ⟨sc, ns, start, rfl, hS, hst0, hst1, q⟩ := h
  refine ⟨_, (pss_cons (ps_set (i := 2) scLlaid_book.nd rfl (Or.inl rfl) (pe_call G_law_tape (hr.mono (by omega)) rfl R_law_tape.m R_law_tape.k R_law_tape.b .nil pass0 (pa_cons (pv 0) (pa_cons (pv 1) pa_nil))))
    (pss_cons (ps_set (i := 3) scLlaid_book.nd rfl (Or.inl rfl) (pe_call G_law_words (hr.mono (by omega)) rfl R_law_words.m R_law_words.k R_law_words.b .nil pass0 (pa_cons (pv 2) (pa_cons (pe_ix ix_list (pe_lst (pa_cons pe_int (pa_cons pe_int (pa_cons pe_int (pa_cons pe_int (pa_cons pe_int (pa_cons pe_int pa_nil))))))) (pe_call G_law_digit (hr.mono (by omega)) rfl R_law_digit.m R_law_digit.k R_law_digit.b .nil pass0 (pa_cons (pv 2) (pa_cons pe_int pa_nil))) (fun _ _ => rfl)) pa_nil))))
    (pss_cons (ps_set (i := 4) scLlaid_book.nd rfl (Or.inl rfl) pe_dnewK)
    (pss_cons (ps_for PassesOwn.never rfl (pi_list (pv 3)) (pg_name (i := 5) scLlaid_book.nd rfl (Or.inl rfl)) (pss_one (ps_dput (hu_of hr) (pv 4) (pv 5) (pe_ix ix_list (pe_lst (pa_cons pe_int (pa_cons pe_int (pa_cons pe_int (pa_cons pe_int (pa_cons pe_int (pa_cons pe_int pa_nil))))))) (pe_call G_law_digit (hr.mono (by omega)) rfl R_law_digit.m R_law_digit.k R_law_digit.b .nil pass0 (pa_cons (pv 2) (pa_cons pe_int pa_nil))) (fun _ _ => rfl)) rfl)))
    (pss_cons (ps_set (i := 6) scLlaid_book.nd rfl (Or.inl rfl) (pe_ix ix_list (pe_lst (pa_cons pe_int (pa_cons pe_int (pa_cons pe_int (pa_cons pe_int pa_nil))))) (pe_call G_law_digit (hr.mono (by omega)) rfl R_law_digit.m R_law_digit.k R_law_digit.b .nil pass0 (pa_cons (pv 2) (pa_cons pe_int pa_nil))) (fun _ _ => rfl)))
    (pss_cons (ps_set (i := 7) scLlaid_book.nd rfl (Or.inl rfl) (pe_lst pa_nil))
    (pss_cons (ps_for PassesOwn.never rfl (pi_range1 rfl T.m_range (pa_cons (pe_callB call_len_seq (by rfl) T.m_len PySem.boot_len (pa_cons (pv 3) pa_nil)) pa_nil)) (pg_name (i := 8) scLlaid_book.nd rfl (Or.inl rfl)) (pss_cons (ps_set (i := 9) scLlaid_book.nd rfl (Or.inl rfl) (pe_call G_law_tape (hr.mono (by omega)) rfl R_law_tape.m R_law_tape.k R_law_tape.b .nil pass0 (pa_cons (pv 0) (pa_cons (pe_op op_add (pe_op op_add (pv 1) pe_int) (pv 8)) pa_nil))))
    (pss_cons (ps_set (i := 10) scLlaid_book.nd rfl (Or.inl rfl) (pe_call G_law_words (hr.mono (by omega)) rfl R_law_words.m R_law_words.k R_law_words.b .nil pass0 (pa_cons (pv 9) (pa_cons pe_int pa_nil))))
    (pss_cons (ps_set (i := 11) scLlaid_book.nd rfl (Or.inl rfl) (pe_slice sl_list (pv 10) po_none (po_some (pe_dget (hu_of hr) (pv 4) (pe_ix ix_list (pv 3) (pv 8) (fun _ _ => rfl)) (fun _ _ => rfl)))))
    (pss_cons (ps_set (i := 12) scLlaid_book.nd rfl (Or.inl rfl) (pe_disp (pps_cons pe_str (pv 3) (pps_cons pe_str (pv 4) (pps_cons pe_str (pe_slice sl_list (pv 10) (po_some (pe_callB call_len_seq (by rfl) T.m_len PySem.boot_len (pa_cons (pv 11) pa_nil))) po_none) (pps_cons pe_str (pe_call G_law_words (hr.mono (by omega)) rfl R_law_words.m R_law_words.k R_law_words.b .nil pass0 (pa_cons (pv 9) (pa_cons pe_int pa_nil))) pps_nil)))) (by rfl) (by rfl) (fun z => by cases z) (by decide)))
    (pss_cons (ps_dput (hu_of hr) (pv 12) pe_str (pe_ix ix_list (pv 3) (pv 8) (fun _ _ => rfl)) rfl)
    (pss_cons (ps_dput (hu_of hr) (pv 12) pe_str (pv 6) rfl)
    (pss_cons (ps_set (i := 13) scLlaid_book.nd rfl (Or.inl rfl) (pe_call G_law_laid_part (hr.mono (by omega)) rfl R_law_laid_part.m R_law_laid_part.k R_law_laid_part.b .nil pass0 (pa_cons (pv 9) (pa_cons (pv 12) (pa_cons (pv 11) (pa_cons (pe_ix ix_list (pe_lst (pa_cons pe_int (pa_cons pe_int (pa_cons pe_int (pa_cons pe_int pa_nil))))) (pe_call G_law_digit (hr.mono (by omega)) rfl R_law_digit.m R_law_digit.k R_law_digit.b .nil pass0 (pa_cons (pv 2) (pa_cons pe_int pa_nil))) (fun _ _ => rfl)) pa_nil))))))
    (Evl.pss_cut (ps_if (PW.pt (pw_and (pt_cmpR (op_neD hr.units) (pv 11) (pe_lst pa_nil) (nomark _)) (pw_and1 (pt_cmpR op_gt (pe_call G_law_digit (hr.mono (by omega)) rfl R_law_digit.m R_law_digit.k R_law_digit.b .nil pass0 (pa_cons (pv 9) (pa_cons pe_int pa_nil))) pe_int (nomark _))))) (pss_one (ps_set (i := 13) scLlaid_book.nd rfl (Or.inl rfl) (pe_tup (pa_cons pe_str (pa_cons (pe_tup (pa_cons pe_str (pa_cons (pe_ix ix_list (pv 11) pe_int (fun _ _ => rfl)) pa_nil))) (pa_cons (pv 13) (pa_cons (pe_tup (pa_cons pe_str (pa_cons pe_str (pa_cons (pe_call G_law_simple (hr.mono (by omega)) rfl R_law_simple.m R_law_simple.k R_law_simple.b .nil pass0 (pa_cons (pv 9) (pa_cons (pv 11) (pa_cons pe_int pa_nil)))) pa_nil)))) pa_nil))))))) pss_nil)
    (pss_one (ps_expr (pe_bm PySem.F.plainAttrs_list PySem.F.slot_list_append PySem.F.type_list_append mt_append (pv 7) (pa_cons (pe_tup (pa_cons (pe_ix ix_list (pv 3) (pv 8) (fun _ _ => rfl)) (pa_cons (pe_callTy call_tuple_of (by rfl) T.m_tuple (by decide +kernel) (pa_cons (pv 11) pa_nil)) (pa_cons (pv 13) pa_nil)))) pa_nil)))))))))))))
    (pss_one (ps_ret (pe_callTy call_tuple_of (by rfl) T.m_tuple (by decide +kernel) (pa_cons (pv 7) pa_nil))))))))))), ?_⟩
  refine ⟨_, rfl, _, rfl, sc, ns, start, rfl, hS, hst0, by omega, fun hp z0 hhp => ?_⟩
  have s1 := same_new hhp (.lst [.int z0])
  have t1 : Tp (upd H hp (.lst [.int z0])) hp := ⟨z0, upd_same⟩
  -- errands
  refine ⟨_, rfl, sz (by show 6 ≤ 100000; decide), fun p2 hp2 => ?_⟩
  have s2 := same_new hp2 (.lst [.int 1, .int 2, .int 2, .int 3, .int 4, .int 6])
  have t2 := t1.same s2
  have n2 : p2 ≠ hp := (ne_of_none upd_same hp2).symm
  refine ⟨_, rfl, hp, 6, rfl, t2, by decide, by decide, fun r H3 r0 r1 b3 t3 => ?_⟩
  have hme : ∃ m : Int, atI [V.int 1, .int 2, .int 2, .int 3, .int 4, .int 6] r = some (.int m) ∧ 1 ≤ m ∧ m ≤ 6 := by
    obtain ⟨v, hv, hm⟩ := at_some (xs := [V.int 1, .int 2, .int 2, .int 3, .int 4, .int 6]) r0 r1
    simp only [List.mem_cons, List.not_mem_nil, or_false] at hm
    rcases hm with z | z | z | z | z | z <;> subst z <;> exact ⟨_, hv, by decide, by decide⟩
  obtain ⟨m, hma, hm1, hm6⟩ := hme
  refine ⟨p2, _, _, _, rfl, rfl, SqL.of (b3 _ _ n2 upd_same), hma, ?_⟩
  refine ⟨hp, m, rfl, t3, by omega, by omega, fun el fs H4 b4 t4 hel w4 hfl hnd => ?_⟩
  have sH3 : Same H H3 := fun b o h => b3 _ _ (ne_of_none h hhp) (s2 _ _ (s1 _ _ h))
  have sH4 : Same H H4 := fun b o h => b4 _ _ (ne_of_none h hhp) (sH3 _ _ h)
  -- heads
  intro hd hhd
  have s5 := same_new hhd (.dK [])
  have t5 := t4.same s5
  have w5 := w4.but (but_same s5) t4
  have hhd0 : H hd = none := by
    cases e : H hd with
    | none => rfl
    | some o =>
      rw [sH4 _ _ e] at hhd
      cases hhd
  have nhd : hd ≠ hp := by
    obtain ⟨z, hz⟩ := t4
    exact (ne_of_none hz hhd).symm
  have neh : el ≠ hd := ne_of_none w4.1 hhd
  have hlen6 : fs.length ≤ 6 := by omega
  have sH5 : Same H (upd H4 hd (.dK [])) := sH4.trans s5
  have h5d : upd H4 hd (.dK []) hd = some (.dK []) := upd_same
  generalize upd H4 hd (.dK []) = H5 at s5 t5 w5 sH5 h5d
  refine ⟨_, rfl, el, rfl, ⟨_, SqL.of w5.1⟩, for_list (K := K) (a := el) (xs := fs.map V.str) (fun i σ H' => ∃ o kvs, σ = [some (.ref sc), some (.int start), some (.ref hp), some (.ref el), some (.ref hd), o, none, none, none, none, none, none, none, none] ∧
    But2 hp hd H5 H' ∧ Tp H' hp ∧ H' hd = some (.dK kvs) ∧ kvs.length ≤ i ∧ ∀ f ∈ fs.take i, ∃ n : Int, valV kvs (Sum.inr f) = some (.int n) ∧ 0 ≤ n ∧ n ≤ 4) ?_ ?_ ?_ ?_⟩
  · refine ⟨none, [], rfl, But2.refl _ _ _, t5, h5d, Nat.le_refl _, fun f hf => ?_⟩
    rw [List.take_zero] at hf
    cases hf
  · rintro i σ H' _ ⟨o, kvs, rfl, b6, _⟩
    exact SqL.of (b6 _ _ (wls_tp w5.1 t5) neh w5.1)
  · rintro i x σ H6 hx ⟨o, kvs, rfl, b6, t6, h6, hkl, hkv⟩
    rw [List.getElem?_map] at hx
    obtain ⟨fn, hfn, rfl⟩ : ∃ fn, fs[i]? = some fn ∧ V.str fn = x := by
      cases e : fs[i]? with
      | none =>
        rw [e] at hx
        cases hx
      | some fn =>
        rw [e] at hx
        exact ⟨fn, rfl, Option.some.inj hx⟩
    obtain ⟨hi, hi2⟩ := List.getElem?_eq_some_iff.mp hfn
    refine ⟨sz (by show 6 ≤ 100000; decide), fun p7 hp7 => ?_⟩
    have s7 := same_new hp7 (.lst [.int 1, .int 2, .int 1, .int 0, .int 3, .int 4])
    have n7 : p7 ≠ hp := by
      obtain ⟨z, hz⟩ := t6
      exact (ne_of_none hz hp7).symm
    refine ⟨_, rfl, hp, 6, rfl, t6.same s7, by decide, by decide, fun r2 H8 r3 r4 b8 t8 => ?_⟩
    have hne : ∃ m : Int, atI [V.int 1, .int 2, .int 1, .int 0, .int 3, .int 4] r2 = some (.int m) ∧ 0 ≤ m ∧ m ≤ 4 := by
      obtain ⟨v, hv, hm⟩ := at_some (xs := [V.int 1, .int 2, .int 1, .int 0, .int 3, .int 4]) r3 r4
      simp only [List.mem_cons, List.not_mem_nil, or_false] at hm
      rcases hm with z | z | z | z | z | z <;> subst z <;> exact ⟨_, hv, by decide, by decide⟩
    obtain ⟨m2, hma2, hm20, hm24⟩ := hne
    have h8 : H8 hd = some (.dK kvs) := b8 _ _ nhd (s7 _ _ h6)
    refine ⟨p7, _, _, _, rfl, rfl, SqL.of (b8 _ _ n7 upd_same), hma2, _, rfl, _, rfl, hd, _, rfl, DPut.k (k := Sum.inr fn) h8 (Nat.lt_of_le_of_lt (m := 1000) (by omega) (by decide)), ?_⟩
    refine ⟨_, _, rfl, fun b o n1 n2 hb => ?_, ?_, upd_same, ?_, ?_⟩
    · rw [upd_ne n2]
      exact b8 _ _ n1 (s7 _ _ (b6 _ _ n1 n2 hb))
    · obtain ⟨z, hz⟩ := t8
      exact ⟨z, by rw [upd_ne nhd.symm]; exact hz⟩
    · have := length_putK kvs (Sum.inr fn) (V.int m2)
      omega
    · intro f' hf'
      rw [List.take_succ_eq_append_getElem hi, hi2] at hf'
      by_cases e : f' = fn
      · subst e
        exact ⟨m2, by rw [valV_put, if_pos rfl], hm20, hm24⟩
      · rcases List.mem_append.mp hf' with z | z
        · obtain ⟨n3, q1, q2, q3⟩ := hkv f' z
          refine ⟨n3, ?_, q2, q3⟩
          rw [valV_put, if_neg (fun y => e (Sum.inr.inj y))]
          exact q1
        · exact absurd (List.mem_singleton.mp z) e
  rintro σ H6 ⟨o5, kvs, rfl, b6, t6, h6, _, hkv⟩
  rw [List.length_map, List.take_length] at hkv
  have w6 : Wls H6 el fs := ⟨b6 _ _ (wls_tp w5.1 t5) neh w5.1, w5.2⟩
  have sH6 : Same H H6 := fun b o hb => b6 _ _ (ne_of_none hb hhp) (ne_of_none hb hhd0) (sH5 _ _ hb)
  -- wild
  refine ⟨sz (by show 4 ≤ 100000; decide), fun p7 hp7 => ?_⟩
  have s7 := same_new hp7 (.lst [.int 1, .int 1, .int 2, .int 3])
  have n7 : p7 ≠ hp := by
    obtain ⟨z, hz⟩ := t6
    exact (ne_of_none hz hp7).symm
  refine ⟨_, rfl, hp, 4, rfl, t6.same s7, by decide, by decide, fun r2 H8 r3 r4 b8 t8 => ?_⟩
  have hre : ∃ m : Int, atI [V.int 1, .int 1, .int 2, .int 3] r2 = some (.int m) ∧ 1 ≤ m ∧ m ≤ 3 := by
    obtain ⟨v, hv, hm⟩ := at_some (xs := [V.int 1, .int 1, .int 2, .int 3]) r3 r4
    simp only [List.mem_cons, List.not_mem_nil, or_false] at hm
    rcases hm with z | z | z | z <;> subst z <;> exact ⟨_, hv, by decide, by decide⟩
  obtain ⟨wild, hra, hr8, hr40⟩ := hre
  refine ⟨p7, _, _, _, rfl, rfl, SqL.of (b8 _ _ n7 upd_same), hra, ?_⟩
  have sH8 : Same H H8 := fun b o hb => b8 _ _ (ne_of_none hb hhp) (s7 _ _ (sH6 _ _ hb))
  have neh8 : el ≠ hp := wls_tp w6.1 t6
  have w8 : Wls H8 el fs := ⟨b8 _ _ neh8 (s7 _ _ w6.1), w6.2⟩
  have h8 : H8 hd = some (.dK kvs) := b8 _ _ nhd (s7 _ _ h6)
  clear h6 w6 sH6 s7 b8 hp7 b6 t6
  -- found
  refine ⟨sz (by show 0 ≤ 100000; decide), fun fl hflN => ?_⟩
  have s9 := same_new hflN (.lst [])
  have nfh : fl ≠ hp := by
    obtain ⟨z, hz⟩ := t8
    exact (ne_of_none hz hflN).symm
  refine ⟨_, rfl, el, _, rfl, .inl (SqL.of (s9 _ _ w8.1)), _, rfl, by omega, by rw [List.length_map]; omega, ?_⟩
  have hnl : (((fs.map V.str).length : Nat) : Int).toNat = fs.length := by
    rw [Int.toNat_natCast, List.length_map]
  refine for_range (lo := 0) (n := (((fs.map V.str).length : Nat) : Int).toNat) (fun i σ H' => ∃ o8 o9 o10 o11 o12 o13 vs es, σ = [some (.ref sc), some (.int start), some (.ref hp), some (.ref el), some (.ref hd), o5, some (.int wild), some (.ref fl), o8, o9, o10, o11, o12, o13] ∧
    But1 hp H8 H' ∧ Tp H' hp ∧ H' fl = some (.lst vs) ∧ All2 (TErV H') es vs ∧ es.length = i ∧ es.map (·.1) = fs.take i ∧ ∀ e ∈ es, GdLE e) ?_ ?_ ?_
  · exact ⟨_, _, _, _, _, _, [], [], rfl, but_same s9, t8.same s9, upd_same, trivial, rfl, rfl, fun _ z => nomatch z⟩
  · rintro i σ H' hi ⟨o8, o9, o10, o11, o12, o13, vs, es, rfl, sA, tA, hfA, kA, hel2, hnm, hgd⟩
    rw [hnl] at hi
    have hfi : fs[i]? = some fs[i] := List.getElem?_eq_getElem hi
    have hfm := List.getElem_mem hi
    generalize fs[i] = fn at hfi hfm
    have ei : (0 : Int) + (i : Nat) = ((i : Nat) : Int) := by omega
    have hat : atI (fs.map V.str) ((0 : Int) + (i : Nat)) = some (V.str fn) := by
      rw [ei]
      exact atI_nat (by rw [List.getElem?_map, hfi]; rfl)
    obtain ⟨nn, hnn, hn0, hn4⟩ := hkv fn hfm
    have wAe : Wls H' el fs := ⟨sA _ _ neh8 w8.1, w8.2⟩
    have hAd : H' hd = some (.dK kvs) := sA _ _ nhd h8
    have sHA : Same H H' := fun b o hb => sA _ _ (ne_of_none hb hhp) (sH8 _ _ hb)
    -- tape
    refine ⟨_, rfl, _, rfl, _, _, rfl, rfl, _, rfl, _, _, rfl, rfl, sc, ns, _, rfl, sHA.seq hS, by omega, by omega, fun tp z htp => ?_⟩
    have sB := same_new htp (.lst [.int z])
    have tB : Tp (upd H' tp (.lst [.int z])) tp := ⟨z, upd_same⟩
    have nth : hp ≠ tp := by
      obtain ⟨z, hz⟩ := tA
      exact ne_of_none hz htp
    refine ⟨_, rfl, tp, 16, rfl, tB, by decide, by decide, fun wp ws HC bC tC hwp wC hwl hwnd => ?_⟩
    have hwl16 : ws.length = 16 := by omega
    have sC : Same H' HC := fun b o hb => bC _ _ (ne_of_none hb htp) (sB _ _ hb)
    have wCe : Wls HC el fs := ⟨sC _ _ wAe.1, w8.2⟩
    have hCd : HC hd = some (.dK kvs) := sC _ _ hAd
    -- names
    refine ⟨_, rfl, _, rfl, _, rfl, _, rfl, el, _, _, _, rfl, rfl, SqL.of wCe.1, hat, hd, _, rfl, get_of hCd hnn, _, rfl, wp, _, rfl, SqL.of wC.1, fun np hnp => ?_⟩
    have eN : cutV (ws.map V.str) none (some nn) = (ws.take nn.toNat).map V.str := by
      rw [cut_to hn0 (by rw [List.length_map]; omega), List.map_take]
    rw [eN]
    have sD := same_new hnp (.lst ((ws.take nn.toNat).map V.str))
    have hD : upd HC np (.lst ((ws.take nn.toNat).map V.str)) np = some (.lst ((ws.take nn.toNat).map V.str)) := upd_same
    have tD := tC.same sD
    generalize upd HC np (.lst ((ws.take nn.toNat).map V.str)) = HD at sD hD tD
    -- known
    intro kd hkd
    have sE := same_new hkd (.dK [])
    refine ⟨_, rfl, _, rfl, _, rfl, _, rfl, np, _, rfl, .inl (SqL.of (sE _ _ hD)), _, rfl, wp, _, rfl, SqL.of (sE _ _ (sD _ _ wC.1)), fun wl hwlN => ?_⟩
    have eW : cutV (ws.map V.str) (some ((((ws.take nn.toNat).map V.str).length : Nat) : Int)) none = (ws.drop nn.toNat).map V.str := by
      have e1 : ((ws.take nn.toNat).map V.str).length = nn.toNat := by
        rw [List.length_map, List.length_take]
        omega
      rw [e1, cut_from (by omega) (by rw [List.length_map]; omega), List.map_drop, Int.toNat_natCast]
    rw [eW]
    have sF := same_new hwlN (.lst ((ws.drop nn.toNat).map V.str))
    have hkF : upd (upd HD kd (.dK [])) wl (.lst ((ws.drop nn.toNat).map V.str)) kd = some (.dK []) := sF _ _ upd_same
    have hwF : upd (upd HD kd (.dK [])) wl (.lst ((ws.drop nn.toNat).map V.str)) wl = some (.lst ((ws.drop nn.toNat).map V.str)) := upd_same
    have nwk : wl ≠ kd := (ne_of_none upd_same hwlN).symm
    have nwn : np ≠ wl := ne_of_none (sE _ _ hD) hwlN
    have sDF := sE.trans sF
    have nwe : el ≠ wl := ne_of_none (sE _ _ (sD _ _ wCe.1)) hwlN
    have sHD : Same H' HD := sC.trans sD
    have hwl0 : H' wl = none := by
      cases e : H' wl with
      | none => rfl
      | some o =>
        rw [sE _ _ (sHD _ _ e)] at hwlN
        cases hwlN
    generalize upd (upd HD kd (.dK [])) wl (.lst ((ws.drop nn.toNat).map V.str)) = HF at sDF hkF hwF
    have tF : Tp HF tp := tD.same sDF
    have nkt : kd ≠ tp := by
      obtain ⟨z, hz⟩ := tD
      exact (ne_of_none hz hkd).symm
    refine ⟨_, rfl, tp, 16, rfl, tF, by decide, by decide, fun pl js HP bP tP hplN wPl hjl hjnd => ?_⟩
    have hjl16 : js.length = 16 := by omega
    have hkP := bP _ _ nkt hkF
    have npk : pl ≠ kd := fun z => by
      rw [z] at hplN
      rw [hkF] at hplN
      cases hplN
    refine ⟨hkP, klT4 el hd wl pl, rfl, by show 4 ≤ 15; decide, ?_⟩
    rw [merge_kl4]
    have big4 : (klT4 el hd wl pl).length < sizeLine := Nat.lt_of_lt_of_le (by show 4 < 1000; decide : _ < 1000) (by decide)
    have big5 : (putK (klT4 el hd wl pl) kgO (.str fn)).length < sizeLine := Nat.lt_of_lt_of_le (by show 5 < 1000; decide : _ < 1000) (by decide)
    have nek : el ≠ kd := ne_of_none (sD _ _ wCe.1) hkd
    have net : el ≠ tp := wls_tp wCe.1 tC
    have weP : HP el = some (.lst (fs.map V.str)) := bP _ _ net (sDF _ _ (sD _ _ wCe.1))
    refine ⟨_, rfl, _, rfl, el, _, _, _, rfl, rfl, SqL.of (by rw [upd_ne nek]; exact weP), hat, _, rfl, kd, _, rfl, DPut.k (k := kgO) upd_same big4, ?_⟩
    refine ⟨_, rfl, _, rfl, kd, _, rfl, DPut.k (k := kgI) upd_same big5, ?_⟩
    have hkG : (upd (upd (upd HP kd (.dK (klT4 el hd wl pl))) kd (.dK (putK (klT4 el hd wl pl) kgO (.str fn)))) kd (.dK (putK (putK (klT4 el hd wl pl) kgO (.str fn)) kgI (.int wild)))) kd = some (.dK (klT el hd wl pl fn wild)) := upd_same
    have oth : ∀ b o, b ≠ kd → HP b = some o → (upd (upd (upd HP kd (.dK (klT4 el hd wl pl))) kd (.dK (putK (klT4 el hd wl pl) kgO (.str fn)))) kd (.dK (putK (putK (klT4 el hd wl pl) kgO (.str fn)) kgI (.int wild)))) b = some o := fun b o n h => by
      rw [upd_ne n, upd_ne n, upd_ne n]
      exact h
    generalize (upd (upd (upd HP kd (.dK (klT4 el hd wl pl))) kd (.dK (putK (klT4 el hd wl pl) kgO (.str fn)))) kd (.dK (putK (putK (klT4 el hd wl pl) kgO (.str fn)) kgI (.int wild)))) = HG at hkG oth ⊢
    have bDG : ∀ b o, b ≠ tp → HD b = some o → HG b = some o := fun b o nb hb => oth b o (ne_of_none hb hkd) (bP b o nb (sDF b o hb))
    have tG : Tp HG tp := by
      obtain ⟨z, hz⟩ := tP
      exact ⟨z, oth _ _ nkt.symm hz⟩
    have nwt : wl ≠ tp := wls_tp hwF tF
    have hwG : HG wl = some (.lst ((ws.drop nn.toNat).map V.str)) := oth _ _ nwk (bP _ _ nwt hwF)
    have nwp : wl ≠ pl := ne_of_none hwF hplN
    have wPG : Wls HG pl js := ⟨oth _ _ npk wPl.1, wPl.2⟩
    have ndt : hd ≠ tp := by
      obtain ⟨z, hz⟩ := tC
      exact ne_of hCd hz (fun y => by cases y)
    have nep : el ≠ pl := ne_of_none (sDF _ _ (sD _ _ wCe.1)) hplN
    have nnp : np ≠ pl := ne_of_none (sDF _ _ hD) hplN
    have nnt : np ≠ tp := wls_tp hD tD
    have hpl0 : H' pl = none := by
      cases e : H' pl with
      | none => rfl
      | some o =>
        rw [sDF _ _ (sHD _ _ e)] at hplN
        cases hplN
    have hkd0 : H' kd = none := by
      cases e : H' kd with
      | none => rfl
      | some o =>
        rw [sHD _ _ e] at hkd
        cases hkd
    have hnp0 : H' np = none := by
      cases e : H' np with
      | none => rfl
      | some o =>
        rw [sC _ _ e] at hnp
        cases hnp
    have sXG : Same H' HG := fun b o hb => bDG b o (ne_of_none hb htp) (sHD b o hb)
    have hnG : HG np = some (.lst ((ws.take nn.toNat).map V.str)) := bDG _ _ nnt hD
    have hwW : ∀ x ∈ ws, isW x = true := wC.2
    clear bDG oth bP tP hkP hkF hwF sDF sF sE sD hD tD tF sC bC tC wCe hCd weP sHD
    -- the body
    obtain ⟨zh, hzh⟩ := tA
    have hph0 : ∀ {b}, H' b = none → hp ≠ b := fun h => ne_of_none hzh h
    refine ⟨_, rfl, _, rfl, _, rfl, sz (by show 4 ≤ 100000; decide), fun p8 hp8 => ?_⟩
    have s8 := same_new hp8 (.lst [.int 2, .int 3, .int 4, .int 5])
    have n8 : p8 ≠ hp := (ne_of_none (sXG _ _ hzh) hp8).symm
    refine ⟨_, rfl, hp, 4, rfl, ⟨zh, s8 _ _ (sXG _ _ hzh)⟩, by decide, by decide, fun r9 H9 r90 r91 b9 t9 => ?_⟩
    have hme : ∃ m : Int, atI [V.int 2, .int 3, .int 4, .int 5] r9 = some (.int m) ∧ 2 ≤ m ∧ m ≤ 5 := by
      obtain ⟨v, hv, hm⟩ := at_some (xs := [V.int 2, .int 3, .int 4, .int 5]) r90 r91
      simp only [List.mem_cons, List.not_mem_nil, or_false] at hm
      rcases hm with z | z | z | z <;> subst z <;> exact ⟨_, hv, by decide, by decide⟩
    obtain ⟨room, hma, hm2, hm5⟩ := hme
    refine ⟨p8, _, _, _, rfl, rfl, SqL.of (b9 _ _ n8 upd_same), hma, ?_⟩
    have bG9 : But1 hp HG H9 := fun b o nb hb => b9 _ _ nb (s8 _ _ hb)
    have T9 : Tp H9 tp := by
      obtain ⟨z, hz⟩ := tG
      exact ⟨z, bG9 _ _ nth.symm hz⟩
    have hn9 := bG9 _ _ (hph0 hnp0).symm hnG
    have we9 : Wls H9 el fs := ⟨bG9 _ _ neh8 (sXG _ _ wAe.1), w8.2⟩
    have I9 : PtL H9 tp kd wl pl np (ws.drop nn.toNat) js (ws.take nn.toNat) := ⟨⟨T9, ⟨bG9 _ _ (hph0 hwl0).symm hwG, fun x hx => hwW x (List.mem_of_mem_drop hx)⟩, ⟨bG9 _ _ (hph0 hpl0).symm wPG.1, wPG.2⟩, by rw [List.length_drop]; omega, by omega, nwp,
      el, hd, fs, kvs, fn, wild, bG9 _ _ (hph0 hkd0).symm hkG, hr8, hr40, hfm, nwe, nep, we9, by omega, by omega, bG9 _ _ nhd (sXG _ _ hAd), hkv⟩, ⟨hn9, fun x hx => hwW x (List.mem_of_mem_take hx)⟩, nwn, nnp, by rw [List.length_drop]; omega, by rw [List.length_take, List.length_drop]; omega⟩
    refine ⟨tp, kd, wl, pl, np, ws.drop nn.toNat, js, ws.take nn.toNat, room, rfl, I9, by omega, by omega, by omega, fun a t HI wsI jsI O => ?_⟩
    have bXI : But1 hp H' HI := fun b o nb hb => O.b _ _ (ne_of_none hb htp) (ne_of_none hb hwl0) (ne_of_none hb hpl0) (bG9 _ _ nb (sXG _ _ hb))
    have tIh : Tp HI hp := by
      obtain ⟨z, hz⟩ := t9
      exact ⟨z, O.b _ _ nth (hph0 hwl0) (hph0 hpl0) hz⟩
    have hnI := O.b _ _ nnt nwn nnp hn9
    have tIt := O.g.t
    have paI := O.at_
    have okI := O.ok
    have cnI : pcnt t ≤ 9 := by
      have := O.cn
      omega
    clear O I9 we9 hn9 T9 bG9
    refine ⟨fun σ' H'' => ∃ a2 t2, σ' = [some (.ref sc), some (.int start), some (.ref hp), some (.ref el), some (.ref hd), o5, some (.int wild), some (.ref fl), some (.int (0 + (i : Nat))), some (.ref tp), some (.ref wp), some (.ref np), some (.ref kd), some (.ref a2)] ∧
      But1 hp H' H'' ∧ Tp H'' hp ∧ H'' np = some (.lst ((ws.take nn.toNat).map V.str)) ∧ PAt H'' t2 a2 ∧ okL t2 ∧ pcnt t2 ≤ 11, ?_, ?_⟩
    · have stay : ∀ (H1 : Hp), But1 tp HI H1 → ∃ a2 t2, ([some (.ref sc), some (.int start), some (.ref hp), some (.ref el), some (.ref hd), o5, some (.int wild), some (.ref fl), some (.int (0 + (i : Nat))), some (.ref tp), some (.ref wp), some (.ref np), some (.ref kd), some (.ref a)] : St) = [some (.ref sc), some (.int start), some (.ref hp), some (.ref el), some (.ref hd), o5, some (.int wild), some (.ref fl), some (.int (0 + (i : Nat))), some (.ref tp), some (.ref wp), some (.ref np), some (.ref kd), some (.ref a2)] ∧
          But1 hp H' H1 ∧ Tp H1 hp ∧ H1 np = some (.lst ((ws.take nn.toNat).map V.str)) ∧ PAt H1 t2 a2 ∧ okL t2 ∧ pcnt t2 ≤ 11 := by
        intro H1 b1
        obtain ⟨z, hz⟩ := tIh
        exact ⟨a, t, rfl, fun b o nb hb => b1 _ _ (ne_of_none hb htp) (bXI b o nb hb), ⟨z, b1 _ _ nth hz⟩, b1 _ _ nnt hnI, paI.tk (tp_tk tIt b1), okI, by omega⟩
      refine ⟨_, rfl, sz (by show 0 ≤ 100000; decide), fun p0 hp0 => ?_⟩
      have s0 := same_new hp0 (.lst [])
      refine ⟨.list ((ws.take nn.toNat).map PyData.str), .list [], .lst (SqL.of (s0 _ _ hnI)) (dp_strs _), .lst (SqL.of upd_same) .nil, shaped_strs (fun x hx => hwW x (List.mem_of_mem_take hx)), rfl, _, rfl, ?_⟩
      rw [eqv_nil]
      have b0 : But1 tp HI (upd HI p0 (.lst [])) := but_same s0
      have t0 := tIt.same s0
      generalize upd HI p0 (.lst []) = H0 at b0 t0 ⊢
      by_cases hxe : ws.take nn.toNat = []
      · exact itF (by rw [hxe]; rfl) (iteF (stay H0 b0))
      obtain ⟨x, xr, hxe⟩ := List.exists_cons_of_ne_nil hxe
      have hxW : isW x = true := hwW x (List.mem_of_mem_take (by rw [hxe]; exact List.mem_cons_self))
      refine itT (by rw [hxe]; rfl) ⟨_, rfl, tp, 4, rfl, t0, by decide, by decide, fun r H1 r0 r1 b1 t1 => ⟨_, _, rfl, rfl, _, rfl, ?_⟩⟩
      have b01 := b0.trans b1
      refine ite2 (fun c => ?_) (fun c => stay H1 b01)
      have hn1 := b01 _ _ nnt hnI
      have hn1' : H1 np = some (.lst (V.str x :: xr.map V.str)) := by
        rw [hxe] at hn1
        exact hn1
      refine ⟨_, rfl, np, _, _, _, rfl, rfl, SqL.of hn1', at0, sz (by show 2 ≤ 100000; decide), fun p1 hp1 => ?_⟩
      have s1 := same_new hp1 (.tup [V.str "name", .str x])
      obtain ⟨u1, hu1, lu1⟩ := ((tb_nam (H := upd H1 p1 (.tup [V.str "name", .str x])) hxW upd_same).le (m := 13) (e := 5) (by decide) (by decide)).lt
      have b02 : But1 tp HI (upd H1 p1 (.tup [V.str "name", .str x])) := b01.trans (but_same s1)
      have t2 := t1.same s1
      have hn2 := s1 _ _ hn1
      generalize upd H1 p1 (.tup [V.str "name", .str x]) = H2 at hu1 b02 t2 hn2 ⊢
      refine ⟨_, rfl, _, rfl, _, rfl, tp, np, ws.take nn.toNat, rfl, t2, ⟨hn2, fun x hx => hwW x (List.mem_of_mem_take hx)⟩, by rw [List.length_take]; omega, Nat.le_refl _, fun a3 u3 H3 b3 t3 gs => ?_⟩
      have b03 := b02.trans b3
      refine ⟨sz (by show 3 ≤ 100000; decide), fun p4 hp4 => ⟨sz (by show 4 ≤ 100000; decide), fun p5 hp5 => ?_⟩⟩
      have s4 := same_new hp4 (.tup [V.str "give", .str "home", .ref a3])
      have s5 := same_new hp5 (.tup [V.str "if", .ref p1, .ref a, .ref p4])
      have s45 := s4.trans s5
      have b05 := b03.trans (but_same s45)
      refine ⟨p5, .iff u1 t (.give "home" u3), rfl, fun b o nb hb => b05 _ _ (ne_of_none hb htp) (bXI b o nb hb), ?_, b05 _ _ nnt hnI, ⟨p1, a, p4, upd_same, (hu1.tk (tp_tk t2 b3)).tk (tk_same s45), paI.tk (tp_tk tIt b05), ⟨a3, s5 _ _ upd_same, (gs fun _ => none).g.at_.tk (tk_same s45)⟩⟩, ⟨lu1, okI, rfl, (gs fun _ => none).lt⟩, ?_⟩
      · obtain ⟨z, hz⟩ := tIh
        exact ⟨z, b05 _ _ nth hz⟩
      · show 1 + pcnt t + 1 ≤ 11
        omega
    · rintro σ2 HJ ⟨a2, t2, rfl, bXJ, tJh, hnJ, paJ, okJ, cnJ⟩
      have weJ := bXJ _ _ neh8 wAe.1
      have hfJ := bXJ _ _ nfh hfA
      refine ⟨_, rfl, .inl ⟨rfl, _, SqL.of hfJ⟩, _, rfl, _, rfl, el, _, _, _, rfl, rfl, SqL.of weJ, hat, _, rfl, np, _, rfl, .inl ⟨SqL.of hnJ, fun tl htl => ?_⟩⟩
      have sK := same_new htl (.tup ((ws.take nn.toNat).map V.str))
      refine ⟨_, rfl, sz (by show 3 ≤ 100000; decide), fun ep hep => ?_⟩
      have sL := same_new hep (.tup [.str fn, .ref tl, .ref a2])
      have sKL := sK.trans sL
      have hfL := sKL _ _ hfJ
      have hvl := kA.len
      refine ⟨fl, _, _, rfl, rfl, hfL, Nat.lt_of_le_of_lt (m := 1000) (by omega) (by decide), ?_⟩
      have tkP := tk_put (o := .lst (vs ++ [.ref ep])) hfL
      have tkJ : TK H' _ := (tp_tk ⟨zh, hzh⟩ bXJ).trans ((tk_same sKL).trans tkP)
      refine ⟨_, _, _, _, _, _, vs ++ [.ref ep], es ++ [(fn, ws.take nn.toNat, t2)], rfl, ?_, ?_, upd_same, ?_, ?_, ?_, ?_⟩
      · intro b o nb hb
        have nbf : b ≠ fl := by
          intro z
          rw [z, hflN] at hb
          cases hb
        rw [upd_ne nbf]
        exact sKL _ _ (bXJ _ _ nb (sA _ _ nb hb))
      · obtain ⟨z, hz⟩ := tJh
        exact ⟨z, by rw [upd_ne nfh.symm]; exact sKL _ _ hz⟩
      · refine (kA.imp fun _ _ z => z.tk tkJ).app ⟨⟨ep, tl, a2, rfl, tkP _ _ upd_same, tkP _ _ (sL _ _ upd_same), (paJ.tk (tk_same sKL)).tk tkP⟩, trivial⟩
      · rw [List.length_append, hel2]
        rfl
      · rw [List.map_append, hnm, List.take_succ_eq_append_getElem hi]
        have e : fs[i] = fn := by
          rw [List.getElem?_eq_getElem hi] at hfi
          exact Option.some.inj hfi
        rw [e]
        rfl
      · intro e he
        rcases List.mem_append.mp he with z | z
        · exact hgd e z
        · rw [List.mem_singleton.mp z]
          exact ⟨w8.2 fn hfm, fun x hx => hwW x (List.mem_of_mem_take hx), okJ, cnJ⟩
  · rintro σ H' ⟨o8, o9, o10, o11, o12, o13, vs, es, rfl, sA, tA, hfA, kA, hel2, hnm, hgd⟩
    rw [hnl] at hel2 hnm
    rw [List.take_length] at hnm
    refine ⟨_, rfl, fl, _, rfl, .inl ⟨SqL.of hfA, fun p hp9 => ?_⟩⟩
    have sK := same_new hp9 (.tup vs)
    have sHA : Same H H' := fun b o hb => sA _ _ (ne_of_none hb hhp) (sH8 _ _ hb)
    exact q p es vs _ (sHA.trans sK) ⟨upd_same, kA.imp fun _ _ z => z.tk (tk_same sK)⟩ ⟨by omega, by rw [hnm]; exact hnd, hgd⟩
end
end KB

namespace KB
open PySem L2 HT
theorem layAll : ∀ {ds : List PyData}, (∀ d ∈ ds, d.canLay0 = true) → PySem.PyData.canLayAll0 ds = true
  | [], _ => rfl
  | d :: r, h => by
    show (d.canLay0 && PySem.PyData.canLayAll0 r) = true
    rw [h d List.mem_cons_self, layAll fun x hx => h x (List.mem_cons_of_mem _ hx)]
    rfl
theorem depthAll_le {m : Nat} : ∀ {ds : List PyData}, (∀ d ∈ ds, d.depth ≤ m) → PySem.PyData.depthAll ds ≤ m
  | [], _ => Nat.zero_le _
  | d :: r, h => by
    show max d.depth (PySem.PyData.depthAll r) ≤ m
    have h1 := h d List.mem_cons_self
    have h2 := depthAll_le fun x hx => h x (List.mem_cons_of_mem _ hx)
    omega
theorem depth_tup {m : Nat} {ds : List PyData} (h : ∀ d ∈ ds, d.depth ≤ m) : (PyData.tuple ds).depth ≤ m + 1 := by
  show PySem.PyData.depthAll ds + 1 ≤ m + 1
  have := depthAll_le h
  omega
theorem depth_lst {m : Nat} {ds : List PyData} (h : ∀ d ∈ ds, d.depth ≤ m) : (PyData.list ds).depth ≤ m + 1 := by
  show PySem.PyData.depthAll ds + 1 ≤ m + 1
  have := depthAll_le h
  omega
theorem lay_lit {x : Str} (h : PySem.PyData.strOk x = true) : (PyData.str x).canLay0 = true := h
theorem lay_str {x : Str} (h : isW x = true) : (PyData.str x).canLay0 = true := isW_ok h
/-! ### terms as data -/
def pdH : Hd → List PyData → PyData
  | .num z, _ => .tuple [.str "number", .int z]
  | .nam x, _ => .tuple [.str "name", .str x]
  | .plus, ds => .tuple (.str "plus" :: ds)
  | .less, ds => .tuple (.str "less" :: ds)
  | .tell, ds => .tuple (.str "tell" :: ds)
  | .lett x, ds => .tuple (.str "let" :: .str x :: ds)
  | .iff, ds => .tuple (.str "if" :: ds)
  | .ask f, ds => .tuple [.str "ask", .str f, .tuple ds]
def pd : Tm → PyData
  | .mk h _ k => pdH h (List.ofFn fun i => pd (k i))
theorem dp_fn {K : PySem.W.Frag} {H : Hp} : ∀ {n : Nat} {ys : _root_.Fin n → Addr} {ds : _root_.Fin n → PyData}, (∀ i, Dp K H (.ref (ys i)) (ds i)) → DpAll K H (Rfs ys) (List.ofFn ds)
  | 0, _, _, _ => .nil
  | n + 1, ys, ds, h => by
    unfold Rfs
    rw [List.ofFn_succ, List.ofFn_succ]
    exact .cons (h 0) (dp_fn (ys := fun i => ys i.succ) (ds := fun i => ds i.succ) fun i => h i.succ)
theorem dp_at {K : PySem.W.Frag} {H : Hp} : ∀ {t : Tm} {a : Addr}, At H t a → Dp K H (.ref a) (pd t) := by
  intro t
  induction t with
  | mk h n k ih =>
    rintro a ⟨ys, l, r⟩
    have d : DpAll K H (Rfs ys) (List.ofFn fun i => pd (k i)) := dp_fn fun i => ih i (r i)
    show Dp K H (.ref a) (pdH h (List.ofFn fun i => pd (k i)))
    generalize (List.ofFn fun i => pd (k i)) = ds at d
    cases h with
    | num z => exact .tup (SqT.of l.2) (.cons (.str _) (.cons (.int _) .nil))
    | nam z => exact .tup (SqT.of l.2) (.cons (.str _) (.cons (.str _) .nil))
    | lett x => exact .tup (SqT.of l.2) (.cons (.str _) (.cons (.str _) d))
    | ask f =>
      obtain ⟨_, p, h1, h2⟩ := l
      exact .tup (SqT.of h1) (.cons (.str _) (.cons (.str _) (.cons (.tup (SqT.of h2) d) .nil)))
    | _ => exact .tup (SqT.of l.2) (.cons (.str _) d)
theorem lay_pdH {h : Hd} {ds : List PyData} (o : okH h) (l : ∀ d ∈ ds, d.canLay0 = true) : (pdH h ds).canLay0 = true := by
  have la := layAll l
  cases h with
  | num z =>
    refine layAll fun d hd => ?_
    rcases List.mem_cons.mp hd with y | y
    · rw [y]
      exact lay_lit (by decide +kernel)
    · rw [List.mem_singleton.mp y]
      rfl
  | nam x =>
    refine layAll fun d hd => ?_
    rcases List.mem_cons.mp hd with z | z
    · rw [z]
      exact lay_lit (by decide +kernel)
    · rw [List.mem_singleton.mp z]
      exact lay_str o
  | lett x =>
    refine layAll fun d hd => ?_
    rcases List.mem_cons.mp hd with z | z
    · rw [z]
      exact lay_lit (by decide +kernel)
    · rcases List.mem_cons.mp z with z | z
      · rw [z]
        exact lay_str o
      · exact l d z
  | ask f =>
    refine layAll fun d hd => ?_
    rcases List.mem_cons.mp hd with z | z
    · rw [z]
      exact lay_lit (by decide +kernel)
    · rcases List.mem_cons.mp z with z | z
      · rw [z]
        exact lay_str o
      · rw [List.mem_singleton.mp z]
        exact la
  | _ =>
    refine layAll fun d hd => ?_
    rcases List.mem_cons.mp hd with z | z
    · rw [z]
      exact lay_lit (by decide +kernel)
    · exact l d z
theorem lay_pd : ∀ {t : Tm}, okT t → (pd t).canLay0 = true := by
  intro t
  induction t with
  | mk h n k ih =>
    rintro ⟨o, r⟩
    refine lay_pdH o fun d hd => ?_
    obtain ⟨i, rfl⟩ := List.mem_ofFn.mp hd
    exact ih i (r i)
theorem depth_pdH {h : Hd} {m : Nat} {ds : List PyData} (l : ∀ d ∈ ds, d.depth ≤ m) : (pdH h ds).depth ≤ m + 2 := by
  cases h with
  | num z => exact Nat.le_trans (depth_tup (m := 0) fun d hd => by
      rcases List.mem_cons.mp hd with y | y
      · rw [y]
        exact Nat.le_refl 0
      · rw [List.mem_singleton.mp y]
        exact Nat.le_refl 0) (by omega)
  | nam x => exact Nat.le_trans (depth_tup (m := 0) fun d hd => by
      rcases List.mem_cons.mp hd with z | z
      · rw [z]
        exact Nat.le_refl 0
      · rw [List.mem_singleton.mp z]
        exact Nat.le_refl 0) (by omega)
  | lett x =>
    refine Nat.le_trans (depth_tup (m := m) fun d hd => ?_) (by omega)
    rcases List.mem_cons.mp hd with z | z
    · rw [z]
      exact Nat.zero_le _
    · rcases List.mem_cons.mp z with z | z
      · rw [z]
        exact Nat.zero_le _
      · exact l d z
  | ask f =>
    refine depth_tup (m := m + 1) fun d hd => ?_
    rcases List.mem_cons.mp hd with z | z
    · rw [z]
      exact Nat.zero_le _
    · rcases List.mem_cons.mp z with z | z
      · rw [z]
        exact Nat.zero_le _
      · rw [List.mem_singleton.mp z]
        exact depth_tup l
  | _ =>
    refine Nat.le_trans (depth_tup (m := m) fun d hd => ?_) (by omega)
    rcases List.mem_cons.mp hd with z | z
    · rw [z]
      exact Nat.zero_le _
    · exact l d z
theorem depth_pd : ∀ {n : Nat} {t : Tm}, HtLe n t → (pd t).depth ≤ 2 * n
  | 0, _, h => h.elim
  | n + 1, .mk h m k, r => by
    refine Nat.le_trans (depth_pdH (h := h) (m := 2 * n) fun d hd => ?_) (by omega)
    obtain ⟨i, rfl⟩ := List.mem_ofFn.mp hd
    exact depth_pd (r i)
theorem eqv_self {d : PyData} (h : SeqAt.shaped d = true) : PyData.eqv d d = true := SeqAt.eqv_refl d (SeqAt.canLay_of_shaped h)
theorem dp_ints {K : PySem.W.Frag} {H : Hp} : ∀ ks : List Int, DpAll K H (ks.map V.int) (ks.map PyData.int)
  | [] => .nil
  | k :: r => .cons (.int k) (dp_ints r)
/-! ### parts of turned books as data -/
def pdP : Pt → PyData
  | .give j t => .tuple [.str "give", .str j, pd t]
  | .ask f ts j => .tuple [.str "ask", .str f, .tuple (ts.map pd), .str j]
  | .tell x t p => .tuple [.str "tell", .str x, pd t, pdP p]
  | .lett x t p => .tuple [.str "let", .str x, pd t, pdP p]
  | .iff t p q => .tuple [.str "if", pd t, pdP p, pdP q]
  | .post j x p q => .tuple [.str "post", .str j, .str x, pdP p, pdP q]
theorem dp_refs {K : PySem.W.Frag} {H : Hp} : ∀ {ts : List Tm} {xs : List V}, All2 (RefV H) ts xs → DpAll K H xs (ts.map pd)
  | [], [], _ => .nil
  | _ :: _, _ :: _, ⟨⟨b, e, h⟩, r⟩ => by
    rw [e]
    exact .cons (dp_at h) (dp_refs r)
  | [], _ :: _, h => h.elim
  | _ :: _, [], h => h.elim
theorem dp_pat {K : PySem.W.Frag} {H : Hp} : ∀ {p : Pt} {a : Addr}, PAt H p a → Dp K H (.ref a) (pdP p)
  | .give j t, a, ⟨b, h1, h2⟩ => .tup (SqT.of h1) (.cons (.str _) (.cons (.str _) (.cons (dp_at h2) .nil)))
  | .ask f ts j, a, ⟨q, vs, h1, h2, h3⟩ => .tup (SqT.of h1) (.cons (.str _) (.cons (.str _) (.cons (.tup (SqT.of h2) (dp_refs h3)) (.cons (.str _) .nil))))
  | .tell x t p, a, ⟨b, c, h1, h2, h3⟩ => .tup (SqT.of h1) (.cons (.str _) (.cons (.str _) (.cons (dp_at h2) (.cons (dp_pat h3) .nil))))
  | .lett x t p, a, ⟨b, c, h1, h2, h3⟩ => .tup (SqT.of h1) (.cons (.str _) (.cons (.str _) (.cons (dp_at h2) (.cons (dp_pat h3) .nil))))
  | .iff t p q, a, ⟨b, c, d, h1, h2, h3, h4⟩ => .tup (SqT.of h1) (.cons (.str _) (.cons (dp_at h2) (.cons (dp_pat h3) (.cons (dp_pat h4) .nil))))
  | .post j x p q, a, ⟨c, d, h1, h2, h3⟩ => .tup (SqT.of h1) (.cons (.str _) (.cons (.str _) (.cons (.str _) (.cons (dp_pat h2) (.cons (dp_pat h3) .nil)))))
/-- a simple term, good -/
structure STm (t : Tm) : Prop where
  ok : okT t
  si : simple t = true
  cn : cnt t ≤ 13
  ht : HtLe 5 t
theorem SmT.st {hd : Str → Option Nat} {xs : List Str} {t : Tm} (h : SmT hd xs t) : STm t := ⟨h.ok, h.si, Nat.le_trans h.cn (by decide), h.ht.le (by decide)⟩
/-- a part whose words are words -/
def kP : Pt → Prop
  | .give j t => PySem.PyData.strOk j = true ∧ STm t
  | .ask f ts j => PySem.PyData.strOk j = true ∧ isW f = true ∧ ts.length ≤ 4 ∧ ∀ t ∈ ts, STm t
  | .tell x t p => isW x = true ∧ STm t ∧ kP p
  | .lett x t p => isW x = true ∧ STm t ∧ kP p
  | .iff t p q => STm t ∧ kP p ∧ kP q
  | .post j x p q => isW j = true ∧ isW x = true ∧ kP p ∧ kP q
theorem okP_kP {hd : Str → Option Nat} : ∀ {p : Pt} {xs hs : List Str}, (∀ j ∈ hs, PySem.PyData.strOk j = true) → okP hd p xs hs → kP p
  | .give j t, _, _, hh, h => ⟨hh _ h.1, h.2.st⟩
  | .ask f ts j, _, _, hh, h => ⟨hh _ h.1, h.2.1, h.2.2.2.1, fun t ht => (h.2.2.2.2 t ht).st⟩
  | .tell x t p, _, _, hh, h => ⟨h.1, h.2.1.st, okP_kP hh h.2.2⟩
  | .lett x t p, _, _, hh, h => ⟨h.1, h.2.1.st, okP_kP hh h.2.2⟩
  | .iff t p q, _, _, hh, h => ⟨h.1.st, okP_kP hh h.2.1, okP_kP hh h.2.2⟩
  | .post j x p q, _, _, hh, h => ⟨h.1, h.2.1, okP_kP hh h.2.2.1, okP_kP (fun k hk => by
      rcases List.mem_append.mp hk with z | z
      · exact hh k z
      · rw [List.mem_singleton.mp z]
        exact isW_ok h.1) h.2.2.2⟩
theorem STm.lay {t : Tm} (h : STm t) : (pd t).canLay0 = true := lay_pd h.ok
theorem STm.dep {t : Tm} (h : STm t) : (pd t).depth ≤ 10 := depth_pd h.ht
theorem lay_cons {d : PyData} {ds : List PyData} (h1 : d.canLay0 = true) (h2 : PySem.PyData.canLayAll0 ds = true) : PySem.PyData.canLayAll0 (d :: ds) = true := Bool.and_eq_true_iff.mpr ⟨h1, h2⟩
theorem lay_pdP : ∀ {p : Pt}, kP p → (pdP p).canLay0 = true
  | .give j t, h => lay_cons (lay_lit (by decide +kernel)) (lay_cons (lay_lit h.1) (lay_cons h.2.lay rfl))
  | .ask f ts j, h => lay_cons (lay_lit (by decide +kernel)) (lay_cons (lay_str h.2.1) (lay_cons (layAll (ds := ts.map pd) fun d hd => by
      obtain ⟨t, ht, rfl⟩ := List.mem_map.mp hd
      exact (h.2.2.2 t ht).lay) (lay_cons (lay_lit h.1) rfl)))
  | .tell x t p, h => lay_cons (lay_lit (by decide +kernel)) (lay_cons (lay_str h.1) (lay_cons h.2.1.lay (lay_cons (lay_pdP h.2.2) rfl)))
  | .lett x t p, h => lay_cons (lay_lit (by decide +kernel)) (lay_cons (lay_str h.1) (lay_cons h.2.1.lay (lay_cons (lay_pdP h.2.2) rfl)))
  | .iff t p q, h => lay_cons (lay_lit (by decide +kernel)) (lay_cons h.1.lay (lay_cons (lay_pdP h.2.1) (lay_cons (lay_pdP h.2.2) rfl)))
  | .post j x p q, h => lay_cons (lay_lit (by decide +kernel)) (lay_cons (lay_str h.1) (lay_cons (lay_str h.2.1) (lay_cons (lay_pdP h.2.2.1) (lay_cons (lay_pdP h.2.2.2) rfl))))
theorem dep_str {m : Nat} {z : Str} : (PyData.str z).depth ≤ m := Nat.zero_le m
theorem depth_pdP : ∀ {p : Pt}, kP p → (pdP p).depth ≤ pcnt p + 11
  | .give j t, h => depth_tup (m := 11) (by
      intro d hd
      simp only [List.mem_cons, List.not_mem_nil, or_false] at hd
      rcases hd with z | z | z <;> subst z
      · exact dep_str
      · exact dep_str
      · exact Nat.le_trans h.2.dep (by decide))
  | .ask f ts j, h => depth_tup (m := 11) (by
      intro d hd
      simp only [List.mem_cons, List.not_mem_nil, or_false] at hd
      rcases hd with z | z | z | z <;> subst z
      · exact dep_str
      · exact dep_str
      · refine depth_tup (m := 10) fun d hd => ?_
        obtain ⟨t, ht, rfl⟩ := List.mem_map.mp hd
        exact (h.2.2.2 t ht).dep
      · exact dep_str)
  | .tell x t p, h => by
      have ih := depth_pdP h.2.2
      refine Nat.le_trans (depth_tup (m := pcnt p + 11) ?_) (by show pcnt p + 11 + 1 ≤ 1 + pcnt p + 11; omega)
      intro d hd
      simp only [List.mem_cons, List.not_mem_nil, or_false] at hd
      rcases hd with z | z | z | z <;> subst z
      · exact dep_str
      · exact dep_str
      · exact Nat.le_trans h.2.1.dep (by omega)
      · exact ih
  | .lett x t p, h => by
      have ih := depth_pdP h.2.2
      refine Nat.le_trans (depth_tup (m := pcnt p + 11) ?_) (by show pcnt p + 11 + 1 ≤ 1 + pcnt p + 11; omega)
      intro d hd
      simp only [List.mem_cons, List.not_mem_nil, or_false] at hd
      rcases hd with z | z | z | z <;> subst z
      · exact dep_str
      · exact dep_str
      · exact Nat.le_trans h.2.1.dep (by omega)
      · exact ih
  | .iff t p q, h => by
      have ih1 := depth_pdP h.2.1
      have ih2 := depth_pdP h.2.2
      refine Nat.le_trans (depth_tup (m := pcnt p + pcnt q + 11) ?_) (by show pcnt p + pcnt q + 11 + 1 ≤ 1 + pcnt p + pcnt q + 11; omega)
      intro d hd
      simp only [List.mem_cons, List.not_mem_nil, or_false] at hd
      rcases hd with z | z | z | z <;> subst z
      · exact dep_str
      · exact Nat.le_trans h.1.dep (by omega)
      · omega
      · omega
  | .post j x p q, h => by
      have ih1 := depth_pdP h.2.2.1
      have ih2 := depth_pdP h.2.2.2
      refine Nat.le_trans (depth_tup (m := pcnt p + pcnt q + 11) ?_) (by show pcnt p + pcnt q + 11 + 1 ≤ 1 + pcnt p + pcnt q + 11; omega)
      intro d hd
      simp only [List.mem_cons, List.not_mem_nil, or_false] at hd
      rcases hd with z | z | z | z | z <;> subst z
      · exact dep_str
      · exact dep_str
      · exact dep_str
      · omega
      · omega
/-! ### all parts and terms of a part, counted -/
def ncnt : Pt → Nat
  | .give _ t => 1 + cnt t
  | .ask _ ts _ => 1 + cnts ts
  | .tell _ t p => 1 + cnt t + ncnt p
  | .lett _ t p => 1 + cnt t + ncnt p
  | .iff t p q => 1 + cnt t + ncnt p + ncnt q
  | .post _ _ p q => 1 + ncnt p + ncnt q
theorem cnts_le {ts : List Tm} (h : ∀ t ∈ ts, STm t) : cnts ts ≤ 13 * ts.length := by
  induction ts with
  | nil => exact Nat.le_refl _
  | cons t r ih =>
    have h1 := (h t List.mem_cons_self).cn
    have h2 := ih fun u hu => h u (List.mem_cons_of_mem _ hu)
    rw [cnts_cons, List.length_cons]
    omega
theorem ncnt_le : ∀ {p : Pt}, kP p → ncnt p ≤ 53 * pcnt p
  | .give j t, h => by
    have := h.2.cn
    show 1 + cnt t ≤ 53 * 1
    omega
  | .ask f ts j, h => by
    have := cnts_le h.2.2.2
    have := h.2.2.1
    show 1 + cnts ts ≤ 53 * 1
    omega
  | .tell x t p, h => by
    have := h.2.1.cn
    have := ncnt_le h.2.2
    show 1 + cnt t + ncnt p ≤ 53 * (1 + pcnt p)
    omega
  | .lett x t p, h => by
    have := h.2.1.cn
    have := ncnt_le h.2.2
    show 1 + cnt t + ncnt p ≤ 53 * (1 + pcnt p)
    omega
  | .iff t p q, h => by
    have := h.1.cn
    have := ncnt_le h.2.1
    have := ncnt_le h.2.2
    show 1 + cnt t + ncnt p + ncnt q ≤ 53 * (1 + pcnt p + pcnt q)
    omega
  | .post j x p q, h => by
    have := ncnt_le h.2.2.1
    have := ncnt_le h.2.2.2
    show 1 + ncnt p + ncnt q ≤ 53 * (1 + pcnt p + pcnt q)
    omega
end KB

namespace HT
open PySem PySem.Spec PyProof.Rows
section
variable {prog : Program} {w : World} {A : Around} {E : Value → Shared → Prop} {s : Shared}
theorem sliceApplied_rev {sl : Addr} {vk : Value} {n : Nat} {Q : Int × Int × Nat → Shared → Prop} (hs : s.heap.IsSliceOf sl .none .none vk) (pk : IsPart vk (some (-1)))
    (h : Q ((n : Int) - 1, -1, n) s) : wpAny (model prog w) A (Builtin.Slice.sliceApplied (.ref sl) (pure (n : Int))) Q E s := by
  obtain ⟨os, hos, hcs, hds⟩ := id hs
  unfold Builtin.Slice.sliceApplied Builtin.Slice.sliceFields
  refine wpAny_bind (wpAny_bind (wpAny_field hos hds (x := .none) rfl (wpAny_bind (wpAny_field hos hds (x := .none) rfl (wpAny_bind (wpAny_field hos hds (x := vk) rfl (wpAny_pure ?_)))))))
  refine wpAny_bind (slicePart_ pk ?_)
  show wpAny _ _ (if ((-1 : Int) == 0) = true then _ else _) _ _ s
  rw [if_neg (by decide)]
  refine wpAny_bind (slicePart_none (wpAny_bind (slicePart_none (wpAny_bind (wpAny_pure ?_)))))
  show wpAny _ _ (pure ((n : Int) - 1, (-1 : Int), Builtin.Slice.slicePlaces ((n : Int) - 1) (-1) (-1))) _ _ s
  have e : Builtin.Slice.slicePlaces ((n : Int) - 1) (-1) (-1) = n := by
    unfold Builtin.Slice.slicePlaces
    have h1 : ¬ ((-1 : Int) > 0) := by omega
    have h2 : (-(-1) : Int) = 1 := by decide
    simp only [h1, if_false, h2, Int.ediv_one]
    split <;> omega
  rw [e]
  exact wpAny_pure h
theorem pick_rev (xs : Array Value) : ((List.range xs.size).filterMap fun (m : Nat) => xs[(((xs.size : Nat) : Int) - 1 + (m : Int) * (-1)).toNat]?).toArray = xs.toList.reverse.toArray := by
  have e : (fun (m : Nat) => xs[(((xs.size : Nat) : Int) - 1 + (m : Int) * (-1)).toNat]?) = fun m => xs[xs.size - 1 - m]? := by
    funext m
    have : (((xs.size : Nat) : Int) - 1 + (m : Int) * (-1)).toNat = xs.size - 1 - m := by omega
    rw [this]
  rw [e]
  have h := PySem.W.krv_range xs.size
  have e2 : (List.range xs.size).filterMap (fun m => xs[xs.size - 1 - m]?) = ((List.range xs.size).map fun k => xs.size - 1 - k).filterMap (xs[·]?) := by
    rw [List.filterMap_map]
    rfl
  rw [e2, h, List.filterMap_reverse, PySem.W.krv_all]
theorem getItem_tuple_rev {t sl : Addr} {items : Array Value} {vk : Value} {Q : Value → Shared → Prop} (ht : IsTup s.heap t items) (hs : s.heap.IsSliceOf sl .none .none vk) (pk : IsPart vk (some (-1)))
    (h : Q (.ref s.heap.objs.size) { s with heap := s.heap.push { cls := .type "tuple", data := .seq (items.toList.reverse).toArray } })
    (hsz : items.size ≤ sizeLine) : wpAny (model prog w) A (getItem (.ref t) (.ref sl)) Q E s := by
  have htake : sizeOk (.seq (items.toList.reverse).toArray) := by
    show (items.toList.reverse).toArray.size ≤ sizeLine
    rw [List.size_toArray, List.length_reverse, Array.length_toList]
    omega
  obtain ⟨os, hos, hcs, hds⟩ := id hs
  have hTs : s.TypeIs (.ref sl) "slice" := ⟨os, hos, hcs⟩
  unfold getItem
  try with_reducible refine wpAny_holding ?_
  first | refine wpAny_bind (wpAny_pure ?_) | skip
  refine wpAny_bind (wpAny_sequenceKey ht.typeIs (by decide) ?_)
  refine wpAny_bind (wpAny_callSpecial?_slot (name := Str.ofString "__getitem__") ht.typeIs PyProof.Rows.slot_tuple_getitem
    (wpAny_call_entry PyProof.Rows.slot_tuple_getitem ht.typeIs entry_tuple_getitem ?_ (args_tuple_getitem _ _)))
  show wpAny _ _ (Builtin.Tuple.tupleItemsOf (.ref t) >>= _) _ _ s
  refine wpAny_bind (tupleItemsOf_ ht ?_)
  refine wpAny_bind (wpAny_typeOf hTs ?_)
  rw [if_pos (by decide)]
  refine wpAny_bind (sliceApplied_rev hs pk ?_)
  have hno : ¬ ((((((items.size : Nat) : Int) - 1) == 0 && (-1 : Int) == 1 && items.size == items.size)) = true) := by
    intro q
    rw [Bool.and_eq_true, Bool.and_eq_true] at q
    exact absurd (eq_of_beq q.1.2) (by decide)
  show wpAny _ _ (if ((((items.size : Nat) : Int) - 1) == 0 && (-1 : Int) == 1 && items.size == items.size) = true then _ else _) _ _ s
  rw [if_neg hno, pick_rev]
  first
    | exact wpAny_bind (m := Builtin.Tuple.tupleExact _) (wpAny_newObj_type (wpAny_pure ⟨_, rfl, wpAny_pure h⟩) htake)
    | exact wpAny_bind (m := Builtin.Tuple.tupleExact _) (wpAny_newObj_type (wpAny_bind (wpAny_pure (wpAny_pure ⟨_, rfl, wpAny_pure h⟩))) htake)
    | exact wpAny_bind (wpAny_bind (m := Builtin.Tuple.tupleExact _) (wpAny_newObj_type (wpAny_pure (wpAny_pure ⟨_, rfl, wpAny_pure h⟩)) htake))
    | exact wpAny_bind (wpAny_bind (m := Builtin.Tuple.tupleExact _) (wpAny_newObj_type (wpAny_pure ⟨_, rfl, wpAny_pure h⟩) htake))
end
end HT

namespace KB
open PySem PySem.Spec PyProof.Rows L2
/-- t[::-1] of a tuple -/
def tRevT (K : PySem.W.Frag) (te : TE) (tk : TO) : TE := fun σ H Q => te σ H fun x H1 => tk σ H1 fun k H2 => k = some (-1) ∧ ∃ a xs, x = .ref a ∧ SqT K H2 a xs ∧ ∀ p, H2 p = none → Q (.ref p) (upd H2 p (.tup xs.reverse))
theorem pe_revT {X : Cx} {e : Expr} {te : TE} {st : Option Expr} {tk : TO} {pos p2 : Pos} (he : PE X e te) (hk : PO X st tk) (hs : ∀ a c : Addr, subscripted (.Slice none none st p2) false (.ref a) (.ref c) = operate [.ref a, .ref c] (getItem (.ref a) (.ref c)) := by intro _ _; rfl) : PE X (.Subscript e (.Slice none none st p2) pos) (tRevT X.K te tk) := by
  refine ⟨fun pins s σ H Q I h => ?_⟩
  refine Subscript_ (thn (he.run pins s σ H _ I h) fun v s1 ⟨x, H1, I1, r1, q1⟩ => ?_)
  refine wpAny_Slice (thn ((po_none (X := X)).run pins s1 σ H1 (fun l H' => l = none ∧ H' = H1) I1 ⟨rfl, rfl⟩) fun vl s2 ⟨l, H2, I2, pl, q2⟩ => thn ((po_none (X := X)).run pins s2 σ H2 (fun l H' => l = none ∧ H' = H1) I2 ⟨rfl, q2.2⟩) fun vu s3 ⟨u, H3, I3, pu, q3⟩ => ?_)
  obtain ⟨rfl, e2⟩ := q2
  obtain ⟨rfl, e3⟩ := q3
  subst e3
  cases pl
  cases pu
  refine thn (hk.run pins s3 σ H3 _ I3 q1) fun vk s4 ⟨k, H4, I4, pk, q4⟩ => ?_
  obtain ⟨rfl, a, xs, rfl, hx, q⟩ := q4
  have I5 : Inv X pins σ H4 { s4 with heap := s4.heap.push { cls := .type "slice", data := .fields #[.none, .none, vk] } } := I4.kept (t' := s4.toks) fun b ob q => Heap.get?_push_of_some _ q
  cases r1
  obtain ⟨its, r, ht, hz⟩ := I5.tuple hx
  have hlen : its.toArray.size = xs.length := by rw [List.size_toArray]; exact r.length.symm
  refine tail_any (T := "tuple") (ops := [.ref a, .ref s4.heap.objs.size]) ht.typeIs PyProof.Rows.slot_tuple_getitem.lookup ?_ (hs _ _)
  refine HT.getItem_tuple_rev ht (Heap.IsSliceOf.new ..) pk ?_ (by rw [hlen]; exact hz)
  refine ⟨.ref _, _, I5.laid (t' := s4.toks) (o := .tup xs.reverse) (fun b ob q => Heap.get?_push_of_some _ q) (Nat.le_refl _) ?_, rfl, q _ (I5.hok.fresh (Nat.le_refl _))⟩
  refine ⟨by rw [List.length_reverse]; exact hz, _, ?_, IsTup.new _ _⟩
  show Vals xs.reverse its.toArray.toList.reverse
  exact r.reverse
end KB

namespace KB
open PySem L2

/-! ### trees, whatever they are made of -/
def plL {N : Type} (pl : N → List (List Int × N)) : Nat → List N → List (List Int × N)
  | _, [] => []
  | j, t :: ts => (pl t).map (fun e => ((j : Int) :: e.1, e.2)) ++ plL pl (j + 1) ts
structure Tre (N : Type) where
  kids : N → List N
  sz : N → Nat
  pl : N → List (List Int × N)
  A : Hp → N → Addr → Prop
  tk : ∀ {H H' : Hp} {n : N} {a : Addr}, TK H H' → A H n a → A H' n a
  szk : ∀ n, sz n = 1 + ((kids n).map sz).sum
  plk : ∀ n, pl n = ([], n) :: plL pl 0 (kids n)
namespace Tre
variable {N : Type} (R : Tre N)
def V (H : Hp) (n : N) (v : L2.V) : Prop := ∃ b, v = .ref b ∧ R.A H n b
def szs (ns : List N) : Nat := (ns.map R.sz).sum
def pre (n : N) : List N := (R.pl n).map (·.2)
def pres (ns : List N) : List N := (ns.map R.pre).flatten
theorem V.tk {R : Tre N} {H H' : Hp} (e : TK H H') {n : N} {v : L2.V} (h : R.V H n v) : R.V H' n v := let ⟨b, e1, h1⟩ := h; ⟨b, e1, R.tk e h1⟩
theorem szs_cons (n : N) (r : List N) : R.szs (n :: r) = R.sz n + R.szs r := rfl
theorem szs_app (a b : List N) : R.szs (a ++ b) = R.szs a + R.szs b := by
  unfold szs
  rw [List.map_append, List.sum_append]
theorem pos (n : N) : 1 ≤ R.sz n := by
  rw [R.szk]
  omega
theorem len_szs : ∀ ns : List N, ns.length ≤ R.szs ns
  | [] => Nat.le_refl _
  | n :: r => by
    have h1 := R.pos n
    have h2 := len_szs r
    rw [R.szs_cons, List.length_cons]
    omega
theorem pres_cons (n : N) (r : List N) : R.pres (n :: r) = R.pre n ++ R.pres r := rfl
theorem pres_app (a b : List N) : R.pres (a ++ b) = R.pres a ++ R.pres b := by
  unfold pres
  rw [List.map_append, List.flatten_append]
theorem plL_snd : ∀ (ns : List N) (j : Nat), (plL R.pl j ns).map (·.2) = R.pres ns
  | [], _ => rfl
  | n :: r, j => by
    show ((R.pl n).map (fun e => ((j : Int) :: e.1, e.2)) ++ plL R.pl (j + 1) r).map (·.2) = R.pre n ++ R.pres r
    rw [List.map_append, plL_snd r, List.map_map]
    rfl
theorem pre_mk (n : N) : R.pre n = n :: R.pres (R.kids n) := by
  unfold pre
  rw [R.plk, List.map_cons, R.plL_snd]
theorem plL_len (h : ∀ n, (R.pl n).length = R.sz n) : ∀ (ns : List N) (j : Nat), (plL R.pl j ns).length = R.szs ns
  | [], _ => rfl
  | n :: r, j => by
    show ((R.pl n).map (fun e => ((j : Int) :: e.1, e.2)) ++ plL R.pl (j + 1) r).length = R.sz n + R.szs r
    rw [List.length_append, List.length_map, plL_len h r, h n]
theorem mem_szs {n : N} {ns : List N} (h : n ∈ ns) : R.sz n ≤ R.szs ns := by
  induction ns with
  | nil => cases h
  | cons a r ih =>
    rw [R.szs_cons]
    rcases List.mem_cons.mp h with z | z
    · subst z
      omega
    · have := ih z
      omega
theorem pl_len (m : Nat) : ∀ n, R.sz n ≤ m → (R.pl n).length = R.sz n := by
  induction m with
  | zero => intro n h; have := R.pos n; omega
  | succ m ih =>
    intro n h
    have e := R.szk n
    have go : ∀ (ns : List N) (j : Nat), R.szs ns ≤ m → (plL R.pl j ns).length = R.szs ns := by
      intro ns
      induction ns with
      | nil => intro j _; rfl
      | cons a r ihr =>
        intro j hj
        rw [R.szs_cons] at hj ⊢
        show ((R.pl a).map (fun e => ((j : Int) :: e.1, e.2)) ++ plL R.pl (j + 1) r).length = _
        rw [List.length_append, List.length_map, ihr (j + 1) (by omega), ih a (by omega)]
    rw [R.plk, List.length_cons, go (R.kids n) 0 (by show ((R.kids n).map R.sz).sum ≤ m; omega), e]
    show R.szs (R.kids n) + 1 = 1 + R.szs (R.kids n)
    omega
theorem pl_short (m : Nat) : ∀ n, R.sz n ≤ m → ∀ e ∈ R.pl n, e.1.length < R.sz n := by
  induction m with
  | zero => intro n h; have := R.pos n; omega
  | succ m ih =>
    intro n h
    have e := R.szk n
    have go : ∀ (ns : List N) (j : Nat), R.szs ns ≤ m → ∀ e ∈ plL R.pl j ns, e.1.length ≤ R.szs ns := by
      intro ns
      induction ns with
      | nil => intro j _ e he; cases he
      | cons a r ihr =>
        intro j hj e he
        rw [R.szs_cons] at hj ⊢
        have he' : e ∈ (R.pl a).map (fun e => ((j : Int) :: e.1, e.2)) ++ plL R.pl (j + 1) r := he
        rcases List.mem_append.mp he' with z | z
        · obtain ⟨e', h1, rfl⟩ := List.mem_map.mp z
          have := ih a (by omega) e' h1
          show e'.1.length + 1 ≤ _
          omega
        · have := ihr (j + 1) (by omega) e z
          omega
    intro x hx
    rw [R.plk] at hx
    have e2 : R.sz n = 1 + R.szs (R.kids n) := e
    rcases List.mem_cons.mp hx with z | z
    · subst z
      show 0 < R.sz n
      omega
    · have := go (R.kids n) 0 (by omega) x z
      omega
theorem sz_pl (m : Nat) : ∀ n, R.sz n ≤ m → ∀ e ∈ R.pl n, R.sz e.2 ≤ R.sz n := by
  induction m with
  | zero => intro n h; have := R.pos n; omega
  | succ m ih =>
    intro n h
    have e := R.szk n
    have go : ∀ (ns : List N) (j : Nat), R.szs ns ≤ m → ∀ e ∈ plL R.pl j ns, R.sz e.2 ≤ R.szs ns := by
      intro ns
      induction ns with
      | nil => intro j _ e he; cases he
      | cons a r ihr =>
        intro j hj e he
        rw [R.szs_cons] at hj ⊢
        have he' : e ∈ (R.pl a).map (fun e => ((j : Int) :: e.1, e.2)) ++ plL R.pl (j + 1) r := he
        rcases List.mem_append.mp he' with z | z
        · obtain ⟨e', h1, rfl⟩ := List.mem_map.mp z
          have := ih a (by omega) e' h1
          show R.sz e'.2 ≤ _
          omega
        · have := ihr (j + 1) (by omega) e z
          omega
    intro x hx
    rw [R.plk] at hx
    have e2 : R.sz n = 1 + R.szs (R.kids n) := e
    rcases List.mem_cons.mp hx with z | z
    · subst z
      exact Nat.le_refl _
    · have := go (R.kids n) 0 (by omega) x z
      omega
end Tre
theorem All2.rev {α : Type} {S : α → V → Prop} : ∀ {as : List α} {vs : List V}, All2 S as vs → All2 S as.reverse vs.reverse
  | [], [], _ => trivial
  | a :: as, v :: vs, h => by
    rw [List.reverse_cons, List.reverse_cons]
    exact (All2.rev h.2).app ⟨h.1, trivial⟩
  | [], _ :: _, h => h.elim
  | _ :: _, [], h => h.elim

section
variable {P : Program} {w : World} {K : PySem.W.Frag} {mg : Str → Option Value} {base : Heap}
/-- what a function promises that tells the parts right in a part -/
def spKids {N : Type} (R : Tre N) : Sp := fun vs H Q _ => ∃ (n : N) (a : Addr), vs = [.ref a] ∧ R.A H n a ∧ ∀ p H' us, Same H H' → H' p = some (.tup us) → All2 (R.V H') (R.kids n) us → Q (.ref p) H'
/-! ### met -/
def spMet {N : Type} (R : Tre N) (g : Addr) : Sp := fun vs H Q _ => ∃ (n : N) (a : Addr), vs = [.ref a, .ref g] ∧ R.A H n a ∧ R.sz n ≤ 1000 ∧ ∀ p H' its, H p = none → Same H H' → H' p = some (.lst its) → All2 (R.V H') (R.pre n) its → Q (.ref p) H'
abbrev smet : Stmt := top 5
theorem scmet : FnScope ["body", "parts", "found", "waiting", "part"] ["body", "parts"] (defScope smet) := ⟨rfl, rfl, rfl, by decide +kernel, rfl, by decide +kernel, by decide +kernel⟩
def MetW {N : Type} (R : Tre N) (H : Hp) (a g fl wl : Addr) (n : N) (m : Nat) (σ : St) (H' : Hp) : Prop := ∃ o fv fs rs ts, σ = [some (.ref a), some (.ref g), some (.ref fl), some (.ref wl), o] ∧ Same H H' ∧ H' fl = some (.lst fv) ∧ All2 (R.V H') fs fv ∧ H' wl = some (.lst (List.reverse rs)) ∧ All2 (R.V H') ts rs ∧ m = R.szs ts ∧ fs.length + R.szs ts ≤ 1000 ∧ fs ++ R.pres ts = R.pre n
theorem ok_met {N : Type} (R : Tre N) {k : Nat} {f g : Addr} {fd gd : FuncData} {x : Str} (F : Fun K "met" "met" smet f fd) (Gparts : FnOk P w K mg base CX0 k g gd [x] (spKids R)) (kk : PySem.W.keepIn K (.ref g) = true) (bb : Binds K gd [x] []) : FnOk P w K mg base CX0 (k + 1) f fd ["body", "parts"] (spMet R g) := by
  refine F.ok scmet (fun vs H Q E h => ?_) (fun cdv A outer s H vs Q E hr h => ?_)
  · obtain ⟨n, a, rfl, _⟩ := h
    rfl
  obtain ⟨n, a, rfl, hA, hc, q⟩ := h
  refine ⟨_, (pss_cons (ps_set (i := 2) scmet.nd rfl (Or.inl rfl) (pe_lst pa_nil))
    (pss_cons (ps_set (i := 3) scmet.nd rfl (Or.inl rfl) (pe_lst (pa_cons (pv 0) pa_nil)))
    (pss_cons (ps_while PassesOwn.never (pt_truth (pv 3) (by intro _; rfl)) (pss_cons (ps_set (i := 4) scmet.nd rfl (Or.inl rfl) (pe_bm0 PySem.F.plainAttrs_list PySem.F.slot_list_pop PySem.F.type_list_pop mt_pop (pv 3)))
    (pss_cons (ps_expr (pe_bm PySem.F.plainAttrs_list PySem.F.slot_list_append PySem.F.type_list_append mt_append (pv 2) (pa_cons (pv 4) pa_nil)))
    (pss_one (ps_expr (pe_bm PySem.F.plainAttrs_list PySem.F.slot_list_extend PySem.F.type_list_extend mt_extT (pv 3) (pa_cons (pe_revT (pe_callL (i := 1) Gparts (hr.mono (by omega)) rfl (.inl rfl) kk bb .nil pass0 (pa_cons (pv 4) pa_nil)) (po_some (pe_un un_neg pe_int))) pa_nil)))))))
    (pss_one (ps_ret (pv 2)))))), ?_⟩
  refine ⟨sz (by show 0 ≤ 100000; decide), fun fl hfl => ?_⟩
  have s0 := same_new hfl (.lst [])
  have f0 : upd H fl (.lst []) fl = some (.lst []) := upd_same
  refine ⟨_, rfl, sz (by show 1 ≤ 100000; decide), fun wl hwl => ?_⟩
  have s1 := same_new hwl (.lst [.ref a])
  have hwf : fl ≠ wl := ne_of_none f0 hwl
  have sA := s0.trans s1
  refine ⟨MetW R H a g fl wl n, ⟨_, none, [], [], [.ref a], [n], rfl, sA, s1 _ _ f0, trivial, upd_same, ⟨⟨a, rfl, R.tk (tk_same sA) hA⟩, trivial⟩, rfl, ?_, ?_⟩, ?_⟩
  · show 0 + (R.sz n + 0) ≤ 1000
    omega
  · rw [R.pres_cons]
    exact List.append_nil _
  have hw0 : H wl = none := s0.free hwl
  clear s0 f0 hwl s1 sA
  rintro m σ H1 ⟨o, fv, fs, rs, ts, rfl, s1, h1, k1, h2, k2, rfl, hm, hP⟩
  refine ⟨_, rfl, _, .inl ⟨_, SqL.of h2, rfl⟩, ?_⟩
  cases rs with
  | nil =>
    cases ts with
    | cons _ _ => exact k2.elim
    | nil =>
      refine itF rfl ⟨_, rfl, ?_⟩
      have e : fs = R.pre n := by
        rw [← hP]
        exact (List.append_nil fs).symm
      subst e
      exact q _ _ _ hfl s1 h1 k1
  | cons r rs =>
    cases ts with
    | nil => exact k2.elim
    | cons t1 ts =>
      obtain ⟨⟨b, rfl, hb⟩, k3⟩ := k2
      refine itT (by simp) ⟨fun σ' H' => ∃ m', m' < R.szs (t1 :: ts) ∧ MetW R H a g fl wl n m' σ' H', fun _ _ z => z, ?_⟩
      -- part = waiting.pop()
      refine ⟨_, rfl, .inl ⟨rfl, _, SqL.of h2⟩, wl, _, .ref b, rfl, rfl, h2, by simp, ?_⟩
      have eD : ((V.ref b :: rs).reverse).dropLast = rs.reverse := by rw [List.reverse_cons, List.dropLast_concat]
      rw [eD]
      have tk2 : TK H1 (upd H1 wl (.lst rs.reverse)) := tk_put h2
      have s2 : Same H (upd H1 wl (.lst rs.reverse)) := same_mut s1 hw0
      have w2 : upd H1 wl (.lst rs.reverse) wl = some (.lst rs.reverse) := upd_same
      have f2 : upd H1 wl (.lst rs.reverse) fl = some (.lst fv) := by
        rw [upd_ne hwf]
        exact h1
      have k4 := k1.imp fun _ _ z => Tre.V.tk tk2 z
      have k5 := k3.imp fun _ _ z => Tre.V.tk tk2 z
      have b2 := R.tk tk2 hb
      clear tk2
      generalize upd H1 wl (.lst rs.reverse) = H2 at s2 w2 f2 k4 k5 b2
      -- found.append(part)
      have hfs := k4.len
      refine ⟨_, rfl, .inl ⟨rfl, _, SqL.of f2⟩, _, rfl, fl, _, _, rfl, rfl, f2, Nat.lt_of_le_of_lt (m := 1000) (by omega) (by decide), ?_⟩
      have tk3 : TK H2 (upd H2 fl (.lst (fv ++ [.ref b]))) := tk_put f2
      have s3 : Same H (upd H2 fl (.lst (fv ++ [.ref b]))) := same_mut s2 hfl
      have f3 : upd H2 fl (.lst (fv ++ [.ref b])) fl = some (.lst (fv ++ [.ref b])) := upd_same
      have w3 : upd H2 fl (.lst (fv ++ [.ref b])) wl = some (.lst rs.reverse) := by
        rw [upd_ne (Ne.symm hwf)]
        exact w2
      have b3 := R.tk tk3 b2
      have k6 : All2 (R.V _) (fs ++ [t1]) (fv ++ [.ref b]) := (k4.imp fun _ _ z => Tre.V.tk tk3 z).app ⟨⟨b, rfl, b3⟩, trivial⟩
      have k7 := k5.imp fun _ _ z => Tre.V.tk tk3 z
      clear tk3
      generalize upd H2 fl (.lst (fv ++ [.ref b])) = H3 at s3 f3 w3 b3 k6 k7
      -- waiting.extend(parts(part)[::-1])
      have hcm : R.szs (t1 :: ts) = 1 + R.szs (R.kids t1) + R.szs ts := by
        rw [R.szs_cons, R.szk]
        rfl
      refine ⟨_, rfl, .inl ⟨rfl, _, SqL.of w3⟩, rfl, _, rfl, t1, b, rfl, b3, fun p' H4 us s5 h4 kk4 => ?_⟩
      have hlen := kk4.len
      have k8 := k7.imp fun _ _ z => Tre.V.tk (tk_same s5) z
      have hlen2 := k8.len
      have z1 := R.len_szs (R.kids t1)
      have z2 := R.len_szs ts
      refine ⟨1, rfl, -1, rfl, rfl, p', _, rfl, SqT.of h4, fun p5 hp5 => ?_⟩
      have s6 := same_new hp5 (.tup us.reverse)
      have w6 := s6 _ _ (s5 _ _ w3)
      refine ⟨wl, p5, _, _, rfl, rfl, w6, SqT.of upd_same, sz (by rw [List.length_reverse, List.length_reverse]; omega), ?_⟩
      have s7 := s5.trans s6
      have tk8 := (tk_same s6).trans (tk_put (o := .lst (rs.reverse ++ us.reverse)) w6)
      refine ⟨R.szs (R.kids t1 ++ ts), ?_, some (.ref b), fv ++ [.ref b], fs ++ [t1], us ++ rs, R.kids t1 ++ ts, rfl, same_mut (s3.trans s7) hw0, ?_, ?_, ?_, ?_, rfl, ?_, ?_⟩
      · rw [R.szs_app, hcm]
        omega
      · rw [upd_ne hwf]
        exact s7 _ _ f3
      · exact (k6.imp fun _ _ z => Tre.V.tk (tk_same s5) z).imp fun _ _ z => Tre.V.tk tk8 z
      · rw [upd_same, List.reverse_append]
      · exact (kk4.imp fun _ _ z => Tre.V.tk tk8 z).app (k8.imp fun _ _ z => Tre.V.tk tk8 z)
      · rw [List.length_append, List.length_singleton, R.szs_app]
        omega
      · rw [← hP, R.pres_app, R.pres_cons, R.pre_mk]
        simp
/-! ### placed -/
/-- a tuple that begins with pre -/
def PlV (H : Hp) (pre : List V) (ks : List Int) (v : V) : Prop := ∃ r, v = .ref r ∧ H r = some (.tup (pre ++ ks.map V.int))
theorem PlV.tk {H H' : Hp} (e : TK H H') {pre : List V} {ks : List Int} {v : V} (h : PlV H pre ks v) : PlV H' pre ks v :=
  let ⟨r, e1, h1⟩ := h; ⟨r, e1, e _ _ h1⟩
/-- a place and its part -/
def EntV {N : Type} (A : Hp → N → Addr → Prop) (H : Hp) (pre : List V) (kt : List Int × N) (v : V) : Prop := ∃ q r b, v = .ref q ∧ H q = some (.tup [.ref r, .ref b]) ∧ H r = some (.tup (pre ++ kt.1.map V.int)) ∧ A H kt.2 b
theorem EntV.tk {N : Type} {A : Hp → N → Addr → Prop} {H H' : Hp} (ta : ∀ {n : N} {a : Addr}, TK H H' → A H n a → A H' n a) (e : TK H H') {pre : List V} {kt : List Int × N} {v : V} (h : EntV A H pre kt v) : EntV A H' pre kt v :=
  let ⟨q, r, b, e1, h1, h2, h3⟩ := h; ⟨q, r, b, e1, e _ _ h1, e _ _ h2, ta e h3⟩
def entsN {N : Type} (ks : List Int) : Nat → List N → List (List Int × N)
  | _, [] => []
  | j, t :: ts => (ks ++ [(j : Int)], t) :: entsN ks (j + 1) ts
theorem entsN_snd {N : Type} {ks : List Int} : ∀ {ts : List N} {j : Nat}, (entsN ks j ts).map (·.2) = ts
  | [], _ => rfl
  | t :: ts, j => by
    show t :: (entsN ks (j + 1) ts).map (·.2) = t :: ts
    rw [entsN_snd]
theorem entsN_drop {N : Type} {ks : List Int} {kl : List N} {i : Nat} (h : i < kl.length) : entsN ks i (kl.drop i) = (ks ++ [(i : Int)], kl[i]) :: entsN ks (i + 1) (kl.drop (i + 1)) := by
  rw [List.drop_eq_getElem_cons h]
  rfl
namespace Tre
variable {N : Type} (R : Tre N)
def at_ (ks : List Int) (l : List (List Int × N)) : List (List Int × N) := l.map fun e => (ks ++ e.1, e.2)
def spread (es : List (List Int × N)) : List (List Int × N) := (es.map fun kt => at_ kt.1 (R.pl kt.2)).flatten
def ecnt (es : List (List Int × N)) : Nat := R.szs (es.map (·.2))
theorem spread_cons {e : List Int × N} {r : List (List Int × N)} : R.spread (e :: r) = at_ e.1 (R.pl e.2) ++ R.spread r := rfl
theorem spread_app {a b : List (List Int × N)} : R.spread (a ++ b) = R.spread a ++ R.spread b := by
  unfold spread
  rw [List.map_append, List.flatten_append]
theorem spread_ents {ks : List Int} : ∀ {ts : List N} {j : Nat}, R.spread (entsN ks j ts) = at_ ks (plL R.pl j ts)
  | [], _ => rfl
  | t :: ts, j => by
    show R.spread ((ks ++ [(j : Int)], t) :: entsN ks (j + 1) ts) = at_ ks ((R.pl t).map (fun e => ((j : Int) :: e.1, e.2)) ++ plL R.pl (j + 1) ts)
    rw [R.spread_cons, spread_ents]
    unfold at_
    rw [List.map_append, List.map_map]
    congr 1
    refine List.map_congr_left fun p _ => ?_
    show ((ks ++ [(j : Int)]) ++ p.1, p.2) = (ks ++ ((j : Int) :: p.1), p.2)
    rw [List.append_assoc]
    rfl
end Tre
def spPlaced {N : Type} (R : Tre N) (gp : Addr) : Sp := fun vs H Q _ => ∃ (nm : Str) (a : Addr) (n : N), vs = [.str nm, .ref a, .ref gp] ∧ R.A H n a ∧ R.sz n ≤ 1000 ∧ ∀ p H' its, H p = none → Same H H' → H' p = some (.lst its) → All2 (EntV R.A H' [.str nm]) (R.pl n) its → Q (.ref p) H'
abbrev splaced : Stmt := top 6
theorem scplaced : FnScope ["name", "body", "parts", "found", "waiting", "place", "part", "own", "k"] ["name", "body", "parts"] (defScope splaced) := ⟨rfl, rfl, rfl, by decide +kernel, rfl, by decide +kernel, by decide +kernel⟩
def PldW {N : Type} (R : Tre N) (H : Hp) (nm : Str) (a gp fl wl : Addr) (t : N) (m : Nat) (σ : St) (H' : Hp) : Prop := ∃ o1 o2 o3 o4 fs fv rs es, σ = [some (.str nm), some (.ref a), some (.ref gp), some (.ref fl), some (.ref wl), o1, o2, o3, o4] ∧ Same H H' ∧ H fl = none ∧ H wl = none ∧ fl ≠ wl ∧
  H' fl = some (.lst fv) ∧ All2 (EntV R.A H' [.str nm]) fs fv ∧ H' wl = some (.lst (List.reverse rs)) ∧ All2 (EntV R.A H' [.str nm]) es rs ∧ m = R.ecnt es ∧ fs.length + R.ecnt es ≤ 1000 ∧ fs ++ R.spread es = R.pl t
/-- within the loop over the parts, i of them put there -/
def PldI {N : Type} (R : Tre N) (H : Hp) (nm : Str) (a gp fl wl b ra pp : Addr) (fs : List (List Int × N)) (ks : List Int) (kl : List N) (es : List (List Int × N)) (ys : List V) (i : Nat) (σ : St) (H' : Hp) : Prop :=
  ∃ o4, σ = [some (.str nm), some (.ref a), some (.ref gp), some (.ref fl), some (.ref wl), some (.ref ra), some (.ref b), some (.ref pp), o4] ∧ Same H H' ∧ (∃ fv, H' fl = some (.lst fv) ∧ All2 (EntV R.A H' [.str nm]) fs fv) ∧
  (∃ rs, H' wl = some (.lst (List.reverse rs)) ∧ All2 (EntV R.A H' [.str nm]) (entsN ks (kl.length - i) (kl.drop (kl.length - i)) ++ es) rs) ∧ H' ra = some (.tup (.str nm :: ks.map V.int)) ∧ H' pp = some (.tup ys) ∧ All2 (R.V H') kl ys
theorem ok_placed {N : Type} (R : Tre N) (T : Txt K mg) {k : Nat} {f g : Addr} {fd gd : FuncData} {x : Str} (F : Fun K "placed" "placed" splaced f fd) (Gparts : FnOk P w K mg base CX0 k g gd [x] (spKids R)) (kk : PySem.W.keepIn K (.ref g) = true) (bb : Binds K gd [x] []) : FnOk P w K mg base CX0 (k + 1) f fd ["name", "body", "parts"] (spPlaced R g) := by
  refine F.ok scplaced (fun vs H Q E h => ?_) (fun cdv A outer s H vs Q E hr h => ?_)
  · obtain ⟨nm, a, t, rfl, _⟩ := h
    rfl
  obtain ⟨nm, a, t, rfl, hA, hc, q⟩ := h
  refine ⟨_, (pss_cons (ps_set (i := 3) scplaced.nd rfl (Or.inl rfl) (pe_lst pa_nil))
    (pss_cons (ps_set (i := 4) scplaced.nd rfl (Or.inl rfl) (pe_lst (pa_cons (pe_tup (pa_cons (pe_tup (pa_cons (pv 0) pa_nil)) (pa_cons (pv 1) pa_nil))) pa_nil)))
    (pss_cons (ps_while PassesOwn.never (pt_truth (pv 4) (by intro _; rfl)) (pss_cons (ps_asg (pe_bm0 PySem.F.plainAttrs_list PySem.F.slot_list_pop PySem.F.type_list_pop mt_pop (pv 4)) (pg_tup rfl (pgs_cons (pg_name (i := 5) scplaced.nd rfl (Or.inl rfl)) (pgs_cons (pg_name (i := 6) scplaced.nd rfl (Or.inl rfl)) pgs_nil))))
    (pss_cons (ps_expr (pe_bm PySem.F.plainAttrs_list PySem.F.slot_list_append PySem.F.type_list_append mt_append (pv 3) (pa_cons (pe_tup (pa_cons (pv 5) (pa_cons (pv 6) pa_nil))) pa_nil)))
    (pss_cons (ps_set (i := 7) scplaced.nd rfl (Or.inl rfl) (pe_callL (i := 2) Gparts (hr.mono (by omega)) rfl (.inl rfl) kk bb .nil pass0 (pa_cons (pv 6) pa_nil)))
    (pss_one (ps_for PassesOwn.never rfl (pi_revR rfl T.m_reversed (prg_1 rfl T.m_range (pe_callB call_len_seq (by rfl) T.m_len PySem.boot_len (pa_cons (pv 7) pa_nil)))) (pg_name (i := 8) scplaced.nd rfl (Or.inl rfl)) (pss_one (ps_expr (pe_bm PySem.F.plainAttrs_list PySem.F.slot_list_append PySem.F.type_list_append mt_append (pv 4) (pa_cons (pe_tup (pa_cons (pe_tup (StX.pa_star (pv 5) (pa_cons (pv 8) pa_nil))) (pa_cons (pe_ix ix_tup (pv 7) (pv 8) (fun _ _ => rfl)) pa_nil))) pa_nil))))))))))
    (pss_one (ps_ret (pv 3)))))), ?_⟩
  refine ⟨sz (by show 0 ≤ 100000; decide), fun fl hfl => ?_⟩
  have s0 := same_new hfl (.lst [])
  refine ⟨_, rfl, sz (by show 1 ≤ 100000; decide), fun p0 hp0 => ?_⟩
  have s1 := same_new hp0 (.tup [.str nm])
  refine ⟨_, rfl, sz (by show 2 ≤ 100000; decide), fun p1 hp1 => ?_⟩
  have s2 := same_new hp1 (.tup [.ref p0, .ref a])
  refine ⟨sz (by show 1 ≤ 100000; decide), fun wl hwl => ?_⟩
  have s3 := same_new hwl (.lst [.ref p1])
  have hfl3 := s3 _ _ (s2 _ _ (s1 _ _ (upd_same (H := H) (a := fl) (o := .lst []))))
  have hwf : fl ≠ wl := ne_of_none (s2 _ _ (s1 _ _ upd_same)) hwl
  have sA : Same H _ := s0.trans (s1.trans (s2.trans s3))
  refine ⟨PldW R H nm a g fl wl t, ⟨_, none, none, none, none, [], [], [.ref p1], [([], t)], rfl, sA, hfl, (s0.trans (s1.trans s2)).free hwl, hwf, hfl3, trivial, upd_same, ⟨⟨p1, p0, a, rfl, s3 _ _ upd_same, s3 _ _ (s2 _ _ upd_same), R.tk (tk_same sA) hA⟩, trivial⟩, rfl, ?_, ?_⟩, ?_⟩
  · show 0 + (R.sz t + 0) ≤ 1000
    omega
  · rw [R.spread_cons]
    show [] ++ ((R.pl t).map (fun e => ([] ++ e.1, e.2)) ++ []) = R.pl t
    simp
  clear hfl3 s3 hwl s2 hp1 s1 hp0 s0 sA
  rintro m σ H1 ⟨o1, o2, o3, o4, fs, fv, rs, es, rfl, s1, hf0, hw0, _, h1, k1, h2, k2, rfl, hm, hP⟩
  refine ⟨_, rfl, _, .inl ⟨_, SqL.of h2, rfl⟩, ?_⟩
  cases rs with
  | nil =>
    cases es with
    | cons _ _ => exact k2.elim
    | nil =>
      refine itF rfl ⟨_, rfl, ?_⟩
      have e : fs = R.pl t := by
        rw [← hP]
        exact (List.append_nil fs).symm
      subst e
      exact q _ _ _ hfl s1 h1 k1
  | cons r rs =>
    cases es with
    | nil => exact k2.elim
    | cons e1 es =>
      obtain ⟨ks, t1⟩ := e1
      obtain ⟨⟨qa, ra, b, rfl, g1, g2, g3⟩, k3⟩ := k2
      refine itT (by simp) ⟨fun σ' H' => ∃ m', m' < R.ecnt ((ks, t1) :: es) ∧ PldW R H nm a g fl wl t m' σ' H', fun _ _ z => z, ?_⟩
      -- place, part = waiting.pop()
      refine ⟨_, rfl, .inl ⟨rfl, _, SqL.of h2⟩, wl, _, .ref qa, rfl, rfl, h2, by simp, ?_⟩
      have eD : ((V.ref qa :: rs).reverse).dropLast = rs.reverse := by rw [List.reverse_cons, List.dropLast_concat]
      rw [eD]
      have tk2 : TK H1 (upd H1 wl (.lst rs.reverse)) := tk_put h2
      have s2 : Same H (upd H1 wl (.lst rs.reverse)) := same_mut s1 hw0
      have w2 : upd H1 wl (.lst rs.reverse) wl = some (.lst rs.reverse) := upd_same
      have f2 : upd H1 wl (.lst rs.reverse) fl = some (.lst fv) := by
        rw [upd_ne hwf]
        exact h1
      have k4 := k1.imp fun _ _ z => EntV.tk R.tk tk2 z
      have k5 := k3.imp fun _ _ z => EntV.tk R.tk tk2 z
      have g4 := tk2 _ _ g1
      have g5 := tk2 _ _ g2
      have g6 := R.tk tk2 g3
      clear tk2
      generalize upd H1 wl (.lst rs.reverse) = H2 at s2 w2 f2 k4 k5 g4 g5 g6
      refine ⟨qa, _, rfl, SqT.of g4, rfl, _, _, rfl, _, _, rfl, rfl, ?_⟩
      -- found.append((place, part))
      have hfs := k4.len
      refine ⟨_, rfl, .inl ⟨rfl, _, SqL.of f2⟩, _, rfl, _, rfl, sz (by show 2 ≤ 100000; decide), fun p2 hp2 => ?_⟩
      have s3 := same_new hp2 (.tup [.ref ra, .ref b])
      have f3 := s3 _ _ f2
      refine ⟨fl, _, _, rfl, rfl, f3, Nat.lt_of_le_of_lt (m := 1000) (by omega) (by decide), ?_⟩
      have tk3 : TK H2 (upd (upd H2 p2 (.tup [.ref ra, .ref b])) fl (.lst (fv ++ [.ref p2]))) := (tk_same s3).trans (tk_put f3)
      have s4 : Same H (upd (upd H2 p2 (.tup [.ref ra, .ref b])) fl (.lst (fv ++ [.ref p2]))) := same_mut (s2.trans s3) hf0
      have f4 : upd (upd H2 p2 (.tup [.ref ra, .ref b])) fl (.lst (fv ++ [.ref p2])) fl = some (.lst (fv ++ [.ref p2])) := upd_same
      have w4 : upd (upd H2 p2 (.tup [.ref ra, .ref b])) fl (.lst (fv ++ [.ref p2])) wl = some (.lst rs.reverse) := by
        rw [upd_ne (Ne.symm hwf)]
        exact s3 _ _ w2
      have g7 : upd (upd H2 p2 (.tup [.ref ra, .ref b])) fl (.lst (fv ++ [.ref p2])) p2 = some (.tup [.ref ra, .ref b]) := tk_put f3 _ _ upd_same
      have g8 := tk3 _ _ g5
      have g9 := R.tk tk3 g6
      have k6 : All2 (EntV R.A _ [.str nm]) (fs ++ [(ks, t1)]) (fv ++ [.ref p2]) := (k4.imp fun _ _ z => EntV.tk R.tk tk3 z).app ⟨⟨p2, _, _, rfl, g7, g8, g9⟩, trivial⟩
      have k7 := k5.imp fun _ _ z => EntV.tk R.tk tk3 z
      clear tk3 g7
      generalize upd (upd H2 p2 (.tup [.ref ra, .ref b])) fl (.lst (fv ++ [.ref p2])) = H4 at s4 f4 w4 k6 k7 g8 g9
      -- own = parts(part)
      refine ⟨rfl, _, rfl, t1, b, rfl, g9, fun pp H5 ys s5 g10 hys => ?_⟩
      have f5 := s5 _ _ f4
      have w5 := s5 _ _ w4
      have s6 : Same H H5 := s4.trans s5
      have k8 := k6.imp fun _ _ z => EntV.tk R.tk (tk_same s5) z
      have k9 := k7.imp fun _ _ z => EntV.tk R.tk (tk_same s5) z
      have g11 := s5 _ _ g8
      have hkl := hys.len
      have hec : R.ecnt ((ks, t1) :: es) = 1 + R.szs (R.kids t1) + R.ecnt es := by
        show R.sz t1 + R.ecnt es = _
        rw [R.szk]
        rfl
      have hnk := R.len_szs (R.kids t1)
      have hes := R.len_szs (es.map (·.2))
      rw [List.length_map] at hes
      have hes2 : es.length ≤ R.ecnt es := hes
      refine ⟨_, rfl, pp, _, rfl, .inr (SqT.of g10), _, rfl, by decide, by decide, by omega, by omega, ?_⟩
      rw [hkl]
      generalize hn : (R.kids t1).length = n at hkl hnk
      have e0 : ((n : Int) - 0).toNat = n := by omega
      rw [e0]
      refine for_rangeC (lo := 0 + (n : Int) - 1) (c := -1) (n := n) (PldI R H nm a g fl wl b ra pp (fs ++ [(ks, t1)]) ks (R.kids t1) es ys) ?_ ?_ ?_
      · refine ⟨_, rfl, s6, ⟨_, f5, k8⟩, ⟨rs, w5, ?_⟩, g11, g10, hys⟩
        rw [Nat.sub_zero, List.drop_length]
        exact k9
      · rintro i σ' H6 hi ⟨o4', rfl, r1, ⟨fv6, r2, r3⟩, ⟨rs6, r4, r5⟩, r6, r7, r8⟩
        rw [hn] at r5
        have hj : n - i - 1 < n := by omega
        have ej : (0 : Int) + (n : Int) - 1 + ((i : Nat) : Int) * (-1) = ((n - i - 1 : Nat) : Int) := by omega
        rw [ej]
        obtain ⟨v, hv⟩ : ∃ v, ys[n - i - 1]? = some v := ⟨_, List.getElem?_eq_getElem (by rw [hkl]; exact hj)⟩
        obtain ⟨tj, htj, bj, rfl, hbj⟩ := r8.get hv
        have hes6 := r5.len
        rw [List.length_append] at hes6
        have hle6 : (entsN ks (n - i) ((R.kids t1).drop (n - i))).length ≤ n := by
          have z := congrArg List.length (entsN_snd (ks := ks) (ts := (R.kids t1).drop (n - i)) (j := n - i))
          rw [List.length_map, List.length_drop, hn] at z
          omega
        refine ⟨_, rfl, .inl ⟨rfl, _, SqL.of r4⟩, _, rfl, ra, _, rfl, .inl (SqT.of r6), _, rfl, sz ?_, fun p3 hp3 => ?_⟩
        · have z9 : (ks, t1) ∈ R.pl t := by
            rw [← hP, R.spread_cons]
            refine List.mem_append_right _ (List.mem_append_left _ ?_)
            show (ks, t1) ∈ (R.pl t1).map (fun e => (ks ++ e.1, e.2))
            rw [R.plk, List.map_cons]
            exact List.mem_cons.mpr (.inl (by rw [List.append_nil]))
          have z8 := R.pl_short _ t (Nat.le_refl _) _ z9
          show ((.str nm :: ks.map V.int) ++ [V.int ((n - i - 1 : Nat) : Int)]).length ≤ 100000
          rw [List.length_append, List.length_cons, List.length_map, List.length_singleton]
          have z7 : ks.length < R.sz t := z8
          omega
        have t3 := same_new hp3 (.tup ((.str nm :: ks.map V.int) ++ [.int ((n - i - 1 : Nat) : Int)]))
        refine ⟨_, rfl, _, rfl, pp, _, _, _, rfl, rfl, SqT.of (t3 _ _ r7), atI_nat hv, sz (by show 2 ≤ 100000; decide), fun p4 hp4 => ?_⟩
        have t4 := same_new hp4 (.tup [.ref p3, .ref bj])
        have w6 := t4 _ _ (t3 _ _ r4)
        refine ⟨wl, _, _, rfl, rfl, w6, Nat.lt_of_le_of_lt (m := 2000) (by rw [List.length_reverse]; omega) (by decide), ?_⟩
        have tt := t3.trans t4
        have tk6 := (tk_same tt).trans (tk_put (o := .lst (rs6.reverse ++ [.ref p4])) w6)
        refine ⟨_, rfl, same_mut (r1.trans tt) hw0, ⟨fv6, ?_, r3.imp fun _ _ z => EntV.tk R.tk tk6 z⟩, ⟨.ref p4 :: rs6, ?_, ?_⟩, tk6 _ _ r6, tk6 _ _ r7, r8.imp fun _ _ z => Tre.V.tk tk6 z⟩
        · rw [upd_ne hwf]
          exact tt _ _ r2
        · rw [upd_same, List.reverse_cons]
        · rw [hn]
          have e2 : n - (i + 1) = n - i - 1 := by omega
          have e3 : n - i - 1 + 1 = n - i := by omega
          rw [e2, entsN_drop (by rw [hn]; exact hj), e3]
          refine ⟨⟨p4, p3, bj, rfl, ?_, ?_, ?_⟩, r5.imp fun _ _ z => EntV.tk R.tk tk6 z⟩
          · exact tk_put w6 _ _ upd_same
          · have z := (tk_same t4).trans (tk_put (o := .lst (rs6.reverse ++ [.ref p4])) w6) _ _ (upd_same (H := H6) (a := p3) (o := .tup ((.str nm :: ks.map V.int) ++ [.int ((n - i - 1 : Nat) : Int)])))
            rw [z]
            simp
          · have e9 : (R.kids t1)[n - i - 1]'(by rw [hn]; exact hj) = tj := by
              rw [List.getElem?_eq_getElem (by rw [hn]; exact hj)] at htj
              exact Option.some.inj htj
            show R.A _ ((R.kids t1)[n - i - 1]'(by rw [hn]; exact hj)) bj
            rw [e9]
            exact R.tk tk6 hbj
      · rintro σ' H6 ⟨o4', rfl, r1, ⟨fv6, r2, r3⟩, ⟨rs6, r4, r5⟩, r6, r7, r8⟩
        rw [hn, Nat.sub_self, List.drop_zero] at r5
        have e3 : R.ecnt (entsN ks 0 (R.kids t1) ++ es) = R.szs (R.kids t1) + R.ecnt es := by
          unfold Tre.ecnt
          rw [List.map_append, entsN_snd, R.szs_app]
        refine ⟨_, ?_, _, _, _, _, fs ++ [(ks, t1)], fv6, rs6, _, rfl, r1, hf0, hw0, hwf, r2, r3, r4, r5, rfl, ?_, ?_⟩
        · rw [e3, hec]
          omega
        · rw [e3, List.length_append, List.length_singleton]
          omega
        · rw [← hP, R.spread_cons, R.spread_app, R.spread_ents, R.plk]
          unfold Tre.at_
          simp
end
end KB

namespace KB
open PySem L2

def termsP : Pt → List Tm
  | .give _ t => [t]
  | .ask _ ts _ => ts
  | .tell _ t _ => [t]
  | .lett _ t _ => [t]
  | .iff t _ _ => [t]
  | .post _ _ _ _ => []
def restP : Pt → List Pt
  | .give _ _ => []
  | .ask _ _ _ => []
  | .tell _ _ p => [p]
  | .lett _ _ p => [p]
  | .iff _ p q => [p, q]
  | .post _ _ p q => [p, q]
/-! ### turned parts as a tree -/
def plP : Pt → List (List Int × Pt)
  | .give j t => [([], .give j t)]
  | .ask f ts j => [([], .ask f ts j)]
  | .tell x t p => ([], .tell x t p) :: ((plP p).map (fun e => (((0 : Nat) : Int) :: e.1, e.2)) ++ [])
  | .lett x t p => ([], .lett x t p) :: ((plP p).map (fun e => (((0 : Nat) : Int) :: e.1, e.2)) ++ [])
  | .iff t p q => ([], .iff t p q) :: ((plP p).map (fun e => (((0 : Nat) : Int) :: e.1, e.2)) ++ ((plP q).map (fun e => (((1 : Nat) : Int) :: e.1, e.2)) ++ []))
  | .post j x p q => ([], .post j x p q) :: ((plP p).map (fun e => (((0 : Nat) : Int) :: e.1, e.2)) ++ ((plP q).map (fun e => (((1 : Nat) : Int) :: e.1, e.2)) ++ []))
def TrP : Tre Pt where
  kids := restP
  sz := pcnt
  pl := plP
  A := PAt
  tk e h := PAt.tk e h
  szk n := by cases n <;> simp [pcnt, restP, Nat.add_assoc]
  plk n := by cases n <;> rfl
/-! ### turned parts and their terms as a tree -/
abbrev Nd := Pt ⊕ Tm
def plT : Tm → List (List Int × Nd)
  | .mk h n k => ([], .inr (.mk h n k)) :: (List.ofFn fun i : Fin n => (plT (k i)).map (fun e => ((i.val : Int) :: e.1, e.2))).flatten
def plTs : Nat → List Tm → List (List Int × Nd)
  | _, [] => []
  | j, t :: ts => (plT t).map (fun e => ((j : Int) :: e.1, e.2)) ++ plTs (j + 1) ts
def plQ : Pt → List (List Int × Nd)
  | .give j t => ([], .inl (.give j t)) :: ((plT t).map (fun e => (((0 : Nat) : Int) :: e.1, e.2)) ++ [])
  | .ask f ts j => ([], .inl (.ask f ts j)) :: plTs 0 ts
  | .tell x t p => ([], .inl (.tell x t p)) :: ((plT t).map (fun e => (((0 : Nat) : Int) :: e.1, e.2)) ++ ((plQ p).map (fun e => (((1 : Nat) : Int) :: e.1, e.2)) ++ []))
  | .lett x t p => ([], .inl (.lett x t p)) :: ((plT t).map (fun e => (((0 : Nat) : Int) :: e.1, e.2)) ++ ((plQ p).map (fun e => (((1 : Nat) : Int) :: e.1, e.2)) ++ []))
  | .iff t p q => ([], .inl (.iff t p q)) :: ((plT t).map (fun e => (((0 : Nat) : Int) :: e.1, e.2)) ++ ((plQ p).map (fun e => (((1 : Nat) : Int) :: e.1, e.2)) ++ ((plQ q).map (fun e => (((2 : Nat) : Int) :: e.1, e.2)) ++ [])))
  | .post j x p q => ([], .inl (.post j x p q)) :: ((plQ p).map (fun e => (((0 : Nat) : Int) :: e.1, e.2)) ++ ((plQ q).map (fun e => (((1 : Nat) : Int) :: e.1, e.2)) ++ []))
def plN : Nd → List (List Int × Nd)
  | .inl p => plQ p
  | .inr t => plT t
def kidsN : Nd → List Nd
  | .inl p => (termsP p).map .inr ++ (restP p).map .inl
  | .inr (.mk _ _ k) => (List.ofFn k).map .inr
def szN : Nd → Nat
  | .inl p => ncnt p
  | .inr t => cnt t
def NAt (H : Hp) : Nd → Addr → Prop
  | .inl p, a => PAt H p a ∧ kP p
  | .inr t, a => At H t a ∧ simple t = true
theorem plTs_plL : ∀ (ts : List Tm) (j : Nat), plTs j ts = plL plN j (ts.map .inr)
  | [], _ => rfl
  | t :: ts, j => by
    show (plT t).map (fun e => ((j : Int) :: e.1, e.2)) ++ plTs (j + 1) ts = (plT t).map (fun e => ((j : Int) :: e.1, e.2)) ++ plL plN (j + 1) (ts.map .inr)
    rw [plTs_plL ts (j + 1)]
theorem plT_fn : ∀ {n : Nat} {k : Fin n → Tm} {j : Nat}, (List.ofFn fun i : Fin n => (plT (k i)).map (fun e => (((j + i.val : Nat) : Int) :: e.1, e.2))).flatten = plTs j (List.ofFn k)
  | 0, _, _ => rfl
  | n + 1, k, j => by
    rw [List.ofFn_succ, List.ofFn_succ, List.flatten_cons]
    show _ = (plT (k 0)).map (fun e => ((j : Int) :: e.1, e.2)) ++ plTs (j + 1) _
    rw [← plT_fn (k := fun i => k i.succ) (j := j + 1)]
    congr 3
    · funext i
      have e : j + (i.succ).val = j + 1 + i.val := by
        rw [Fin.val_succ]
        omega
      rw [e]
theorem plT_mk {h : Hd} {n : Nat} {k : Fin n → Tm} : plT (.mk h n k) = ([], .inr (.mk h n k)) :: plTs 0 (List.ofFn k) := by
  rw [← plT_fn]
  show _ :: _ = _
  congr 4
  funext i
  rw [Nat.zero_add]
theorem szs_inr (ts : List Tm) : ((ts.map Sum.inr).map szN).sum = cnts ts := by
  rw [List.map_map]
  rfl
def TrN : Tre Nd where
  kids := kidsN
  sz := szN
  pl := plN
  A := NAt
  tk {H H' n a} e h := by
    cases n with
    | inl p => exact ⟨PAt.tk e h.1, h.2⟩
    | inr t => exact ⟨h.1.tk e, h.2⟩
  szk n := by
    cases n with
    | inl p =>
      cases p with
      | ask f ts j =>
        show 1 + cnts ts = 1 + (((ts.map Sum.inr ++ []).map szN)).sum
        rw [List.append_nil, szs_inr]
      | _ => simp [szN, ncnt, kidsN, termsP, restP, Nat.add_assoc]
    | inr t =>
      obtain ⟨h, n, k⟩ := t
      show cnt (.mk h n k) = 1 + (((List.ofFn k).map Sum.inr).map szN).sum
      rw [szs_inr, cnt_mk]
  plk n := by
    cases n with
    | inl p =>
      cases p with
      | ask f ts j =>
        show ([], .inl (.ask f ts j)) :: plTs 0 ts = ([], .inl (.ask f ts j)) :: plL plN 0 (ts.map .inr ++ [])
        rw [List.append_nil, plTs_plL]
      | _ => rfl
    | inr t =>
      obtain ⟨h, n, k⟩ := t
      show plT (.mk h n k) = ([], .inr (.mk h n k)) :: plL plN 0 ((List.ofFn k).map .inr)
      rw [plT_mk, plTs_plL]
theorem cut3 {x y z : V} {r : List V} : cutV (x :: y :: z :: r) (some 3) none = r := cut_from (i := 3) (by decide) (Nat.succ_le_succ len2)
theorem len3 {α : Type} {x y z : α} {r : List α} : 3 ≤ (x :: y :: z :: r).length := Nat.succ_le_succ len2
theorem all2_fn {H : Hp} : ∀ {n : Nat} {k : Fin n → Tm} {ys : Fin n → Addr}, (∀ i, At H (k i) (ys i)) → All2 (RefV H) (List.ofFn k) (Rfs ys)
  | 0, _, _, _ => trivial
  | n + 1, k, ys, h => by
    unfold Rfs
    rw [List.ofFn_succ, List.ofFn_succ]
    exact ⟨⟨ys 0, rfl, h 0⟩, all2_fn (k := fun i => k i.succ) (ys := fun i => ys i.succ) fun i => h i.succ⟩
theorem simple_mk {h : Hd} {n : Nat} {k : Fin n → Tm} (e : simple (.mk h n k) = true) : flatHd h = true ∧ ∀ i, simple (k i) = true := by
  have e' : (flatHd h && (List.ofFn fun i => simple (k i)).all id) = true := e
  rw [Bool.and_eq_true, List.all_eq_true] at e'
  exact ⟨e'.1, fun i => e'.2 _ (List.mem_ofFn.mpr ⟨i, rfl⟩)⟩
theorem all2_mem {α : Type} {R S : α → V → Prop} : ∀ {as : List α} {vs : List V}, All2 R as vs → (∀ a ∈ as, ∀ v, R a v → S a v) → All2 S as vs
  | [], [], _, _ => trivial
  | a :: as, v :: vs, h, e => ⟨e a List.mem_cons_self v h.1, all2_mem h.2 fun b hb => e b (List.mem_cons_of_mem _ hb)⟩
  | [], _ :: _, h, _ => h.elim
  | _ :: _, [], h, _ => h.elim
def heads : List V := [.str "number", .str "name", .str "plus", .str "less"]
theorem flat_in2 (h : Hd) : inV (.str (hs h)) heads = flatHd h := by
  cases h <;> rfl
/-- how a part begins -/
def hsP : Pt → Str
  | .give _ _ => "give" | .ask _ _ _ => "ask" | .tell _ _ _ => "tell" | .lett _ _ _ => "let" | .iff _ _ _ => "if" | .post _ _ _ _ => "post"
theorem PAt.head {H : Hp} {p : Pt} {a : Addr} (h : PAt H p a) : ∃ r, H a = some (.tup (.str (hsP p) :: r)) := by
  cases p with
  | give j t => obtain ⟨b, h1, _⟩ := h; exact ⟨_, h1⟩
  | ask f ts j => obtain ⟨b, vs, h1, _⟩ := h; exact ⟨_, h1⟩
  | tell x t p => obtain ⟨b, c, h1, _⟩ := h; exact ⟨_, h1⟩
  | lett x t p => obtain ⟨b, c, h1, _⟩ := h; exact ⟨_, h1⟩
  | iff t p q => obtain ⟨b, c, d, h1, _⟩ := h; exact ⟨_, h1⟩
  | post j x p q => obtain ⟨c, d, h1, _⟩ := h; exact ⟨_, h1⟩
def handV : Pt → V
  | .give j _ => .str j
  | .ask _ _ j => .str j
  | _ => .non
theorem kP_terms {p : Pt} (h : kP p) : ∀ t ∈ termsP p, simple t = true := by
  intro t ht
  cases p with
  | give j u => rw [List.mem_singleton.mp ht]; exact h.2.si
  | ask f ts j => exact (h.2.2.2 t ht).si
  | tell x u p => rw [List.mem_singleton.mp ht]; exact h.2.1.si
  | lett x u p => rw [List.mem_singleton.mp ht]; exact h.2.1.si
  | iff u p q => rw [List.mem_singleton.mp ht]; exact h.1.si
  | post j x p q => cases ht
theorem kP_rest {p : Pt} (h : kP p) : ∀ u ∈ restP p, kP u := by
  intro u hu
  cases p with
  | give j t => cases hu
  | ask f ts j => cases hu
  | tell x t p => rw [List.mem_singleton.mp hu]; exact h.2.2
  | lett x t p => rw [List.mem_singleton.mp hu]; exact h.2.2
  | iff t p q =>
    rcases List.mem_cons.mp hu with z | z
    · rw [z]; exact h.2.1
    · rw [List.mem_singleton.mp z]; exact h.2.2
  | post j x p q =>
    rcases List.mem_cons.mp hu with z | z
    · rw [z]; exact h.2.2.1
    · rw [List.mem_singleton.mp z]; exact h.2.2.2
section
variable {P : Program} {w : World} {K : PySem.W.Frag} {mg : Str → Option Value} {base : Heap}
/-! ### terms_in -/
def spTermsIn : Sp := fun vs H Q _ => ∃ (a : Addr) (p : Pt), vs = [.ref a] ∧ PAt H p a ∧ ∀ H' q vs, Same H H' → H' q = some (.tup vs) → All2 (RefV H') (termsP p) vs → Q (.ref q) H'
abbrev sterms_in : Stmt := top 15
theorem scterms_in : FnScope ["part"] ["part"] (defScope sterms_in) := ⟨rfl, rfl, rfl, by decide +kernel, rfl, by decide +kernel, by decide +kernel⟩
theorem ok_tin {f : Addr} {fd : FuncData} (F : Fun K "terms_in" "terms_in" sterms_in f fd) : FnOk P w K mg base CX0 1 f fd ["part"] spTermsIn := by
  refine F.ok scterms_in (fun vs H Q E h => ?_) (fun cdv A outer s H vs Q E hr h => ?_)
  · obtain ⟨a, p, rfl, _⟩ := h
    rfl
  obtain ⟨a, p, rfl, hA, q⟩ := h
  refine ⟨_, (pss_cons (ps_if (pt_cmpR op_eq (pe_ix ix_tup (pv 0) pe_int (fun _ _ => rfl)) pe_str (nomark _)) (pss_one (ps_ret (pe_ix ix_tup (pv 0) pe_int (fun _ _ => rfl)))) pss_nil)
    (pss_cons (ps_if (pt_cmpR op_eq (pe_ix ix_tup (pv 0) pe_int (fun _ _ => rfl)) pe_str (nomark _)) (pss_one (ps_ret (pe_slice sl_tupA (pv 0) (po_some pe_int) (po_some pe_int)))) pss_nil)
    (pss_cons (ps_if (pt_cmpR op_eq (pe_ix ix_tup (pv 0) pe_int (fun _ _ => rfl)) pe_str (nomark _)) (pss_one (ps_ret (pe_tup pa_nil))) pss_nil)
    (pss_one (ps_ret (pe_slice sl_tupA (pv 0) (po_some pe_int) (po_some pe_int))))))), ?_⟩
  cases p with
  | give j t =>
    obtain ⟨b, h1, h2⟩ := hA
    refine ⟨_, rfl, a, _, _, _, rfl, rfl, SqT.of h1, at0, rfl, _, rfl, itF rfl ⟨_, rfl, a, _, _, _, rfl, rfl, SqT.of h1, at0, rfl, _, rfl, itF rfl ⟨_, rfl, a, _, _, _, rfl, rfl, SqT.of h1, at0, rfl, _, rfl, itF rfl ?_⟩⟩⟩
    refine ⟨_, rfl, _, rfl, _, rfl, a, _, rfl, SqT.of h1, fun z => absurd z (by show ¬ (HT.sIx 3 0 (some 2) = 0 ∧ HT.sIx 3 3 (some 3) = 3); decide), fun _ p hp => ?_⟩
    have s1 := same_new hp (.tup [V.ref b])
    exact q _ p [.ref b] s1 upd_same ⟨⟨b, rfl, h2.mono s1⟩, trivial⟩
  | ask g ts j =>
    obtain ⟨b, vs, h1, h2, h3⟩ := hA
    exact ⟨_, rfl, a, _, _, _, rfl, rfl, SqT.of h1, at0, rfl, _, rfl, itT rfl ⟨_, rfl, a, _, _, _, rfl, rfl, SqT.of h1, at2, q H b vs (Same.refl H) h2 h3⟩⟩
  | tell x t p =>
    obtain ⟨b, c, h1, h2, h3⟩ := hA
    refine ⟨_, rfl, a, _, _, _, rfl, rfl, SqT.of h1, at0, rfl, _, rfl, itF rfl ⟨_, rfl, a, _, _, _, rfl, rfl, SqT.of h1, at0, rfl, _, rfl, itF rfl ⟨_, rfl, a, _, _, _, rfl, rfl, SqT.of h1, at0, rfl, _, rfl, itF rfl ?_⟩⟩⟩
    refine ⟨_, rfl, _, rfl, _, rfl, a, _, rfl, SqT.of h1, fun z => absurd z (by show ¬ (HT.sIx 4 0 (some 2) = 0 ∧ HT.sIx 4 4 (some 3) = 4); decide), fun _ p hp => ?_⟩
    have s1 := same_new hp (.tup [V.ref b])
    exact q _ p [.ref b] s1 upd_same ⟨⟨b, rfl, h2.mono s1⟩, trivial⟩
  | lett x t p =>
    obtain ⟨b, c, h1, h2, h3⟩ := hA
    refine ⟨_, rfl, a, _, _, _, rfl, rfl, SqT.of h1, at0, rfl, _, rfl, itF rfl ⟨_, rfl, a, _, _, _, rfl, rfl, SqT.of h1, at0, rfl, _, rfl, itF rfl ⟨_, rfl, a, _, _, _, rfl, rfl, SqT.of h1, at0, rfl, _, rfl, itF rfl ?_⟩⟩⟩
    refine ⟨_, rfl, _, rfl, _, rfl, a, _, rfl, SqT.of h1, fun z => absurd z (by show ¬ (HT.sIx 4 0 (some 2) = 0 ∧ HT.sIx 4 4 (some 3) = 4); decide), fun _ p hp => ?_⟩
    have s1 := same_new hp (.tup [V.ref b])
    exact q _ p [.ref b] s1 upd_same ⟨⟨b, rfl, h2.mono s1⟩, trivial⟩
  | iff t p p2 =>
    obtain ⟨b, c, d, h1, h2, h3, h4⟩ := hA
    refine ⟨_, rfl, a, _, _, _, rfl, rfl, SqT.of h1, at0, rfl, _, rfl, itF rfl ⟨_, rfl, a, _, _, _, rfl, rfl, SqT.of h1, at0, rfl, _, rfl, itT rfl ?_⟩⟩
    refine ⟨_, rfl, _, rfl, _, rfl, a, _, rfl, SqT.of h1, fun z => absurd z (by show ¬ (HT.sIx 4 0 (some 1) = 0 ∧ HT.sIx 4 4 (some 2) = 4); decide), fun _ p hp => ?_⟩
    have s1 := same_new hp (.tup [V.ref b])
    exact q _ p [.ref b] s1 upd_same ⟨⟨b, rfl, h2.mono s1⟩, trivial⟩
  | post j x p p2 =>
    obtain ⟨c, d, h1, h2, h3⟩ := hA
    refine ⟨_, rfl, a, _, _, _, rfl, rfl, SqT.of h1, at0, rfl, _, rfl, itF rfl ⟨_, rfl, a, _, _, _, rfl, rfl, SqT.of h1, at0, rfl, _, rfl, itF rfl ⟨_, rfl, a, _, _, _, rfl, rfl, SqT.of h1, at0, rfl, _, rfl, itT rfl ?_⟩⟩⟩
    exact ⟨sz (by show 0 ≤ 100000; decide), fun p hp => q _ p [] (same_new hp _) upd_same trivial⟩
/-! ### rest_of -/
abbrev srest_of : Stmt := top 16
theorem screst_of : FnScope ["part"] ["part"] (defScope srest_of) := ⟨rfl, rfl, rfl, by decide +kernel, rfl, by decide +kernel, by decide +kernel⟩
theorem ok_rest {f : Addr} {fd : FuncData} (F : Fun K "rest_of" "rest_of" srest_of f fd) : FnOk P w K mg base CX0 1 f fd ["part"] (spKids TrP) := by
  refine F.ok screst_of (fun vs H Q E h => ?_) (fun cdv A outer s H vs Q E hr h => ?_)
  · obtain ⟨p, a, rfl, _⟩ := h
    rfl
  obtain ⟨p, a, rfl, hA, q⟩ := h
  refine ⟨_, (pss_cons (ps_if (pt_cmpR op_eq (pe_ix ix_tup (pv 0) pe_int (fun _ _ => rfl)) pe_str (nomark _)) (pss_one (ps_ret (pe_slice sl_tupA (pv 0) (po_some pe_int) po_none))) pss_nil)
    (pss_cons (ps_if (pt_cmpR op_in_seq (pe_ix ix_tup (pv 0) pe_int (fun _ _ => rfl)) (pe_tup (pa_cons pe_str (pa_cons pe_str pa_nil))) rfl) (pss_one (ps_ret (pe_tup pa_nil))) pss_nil)
    (pss_one (ps_ret (pe_slice sl_tupA (pv 0) (po_some pe_int) po_none))))), ?_⟩
  have hA' : PAt H p a := hA
  obtain ⟨r, hd⟩ := hA'.head
  refine ⟨_, rfl, a, _, _, _, rfl, rfl, SqT.of hd, at0, rfl, _, rfl, ?_⟩
  cases p with
  | iff t p1 p2 =>
    obtain ⟨b, c, d, h1, h2, h3, h4⟩ := hA'
    refine itT rfl ⟨_, rfl, _, rfl, a, _, rfl, SqT.of h1, fun z => absurd z (not_whole (by decide) len2), fun _ pa hpa => ?_⟩
    have s1 := same_new hpa (.tup (cutV [.str "if", .ref b, .ref c, .ref d] (some 2) none))
    exact q pa _ [.ref c, .ref d] s1 (by rw [upd_same, cut2]) ⟨⟨c, rfl, PAt.tk (tk_same s1) h3⟩, ⟨d, rfl, PAt.tk (tk_same s1) h4⟩, trivial⟩
  | give j t =>
    refine itF rfl ⟨_, rfl, a, _, _, _, rfl, rfl, SqT.of hd, at0, sz (by show 2 ≤ 100000; decide), fun t1 ht1 => ⟨t1, _, rfl, .inr (SqT.of upd_same), rfl, rfl, _, rfl, itT rfl ⟨sz (by show 0 ≤ 100000; decide), fun pa hpa => ?_⟩⟩⟩
    exact q pa _ [] ((same_new ht1 _).trans (same_new hpa _)) upd_same trivial
  | ask g ts j =>
    refine itF rfl ⟨_, rfl, a, _, _, _, rfl, rfl, SqT.of hd, at0, sz (by show 2 ≤ 100000; decide), fun t1 ht1 => ⟨t1, _, rfl, .inr (SqT.of upd_same), rfl, rfl, _, rfl, itT rfl ⟨sz (by show 0 ≤ 100000; decide), fun pa hpa => ?_⟩⟩⟩
    exact q pa _ [] ((same_new ht1 _).trans (same_new hpa _)) upd_same trivial
  | tell x t p1 =>
    obtain ⟨b, c, h1, h2, h3⟩ := hA'
    refine itF rfl ⟨_, rfl, a, _, _, _, rfl, rfl, SqT.of h1, at0, sz (by show 2 ≤ 100000; decide), fun t1 ht1 => ⟨t1, _, rfl, .inr (SqT.of upd_same), rfl, rfl, _, rfl, itF rfl ?_⟩⟩
    have s0 := same_new ht1 (.tup [.str "give", .str "ask"])
    refine ⟨_, rfl, _, rfl, a, _, rfl, SqT.of (s0 _ _ h1), fun z => absurd z (not_whole (by decide) len3), fun _ pa hpa => ?_⟩
    have s1 := s0.trans (same_new hpa (.tup (cutV [.str "tell", .str x, .ref b, .ref c] (some 3) none)))
    exact q pa _ [.ref c] s1 (by rw [upd_same, cut3]) ⟨⟨c, rfl, PAt.tk (tk_same s1) h3⟩, trivial⟩
  | lett x t p1 =>
    obtain ⟨b, c, h1, h2, h3⟩ := hA'
    refine itF rfl ⟨_, rfl, a, _, _, _, rfl, rfl, SqT.of h1, at0, sz (by show 2 ≤ 100000; decide), fun t1 ht1 => ⟨t1, _, rfl, .inr (SqT.of upd_same), rfl, rfl, _, rfl, itF rfl ?_⟩⟩
    have s0 := same_new ht1 (.tup [.str "give", .str "ask"])
    refine ⟨_, rfl, _, rfl, a, _, rfl, SqT.of (s0 _ _ h1), fun z => absurd z (not_whole (by decide) len3), fun _ pa hpa => ?_⟩
    have s1 := s0.trans (same_new hpa (.tup (cutV [.str "let", .str x, .ref b, .ref c] (some 3) none)))
    exact q pa _ [.ref c] s1 (by rw [upd_same, cut3]) ⟨⟨c, rfl, PAt.tk (tk_same s1) h3⟩, trivial⟩
  | post j x p1 p2 =>
    obtain ⟨c, d, h1, h2, h3⟩ := hA'
    refine itF rfl ⟨_, rfl, a, _, _, _, rfl, rfl, SqT.of h1, at0, sz (by show 2 ≤ 100000; decide), fun t1 ht1 => ⟨t1, _, rfl, .inr (SqT.of upd_same), rfl, rfl, _, rfl, itF rfl ?_⟩⟩
    have s0 := same_new ht1 (.tup [.str "give", .str "ask"])
    refine ⟨_, rfl, _, rfl, a, _, rfl, SqT.of (s0 _ _ h1), fun z => absurd z (not_whole (by decide) len3), fun _ pa hpa => ?_⟩
    have s1 := s0.trans (same_new hpa (.tup (cutV [.str "post", .str j, .str x, .ref c, .ref d] (some 3) none)))
    exact q pa _ [.ref c, .ref d] s1 (by rw [upd_same, cut3]) ⟨⟨c, rfl, PAt.tk (tk_same s1) h2⟩, ⟨d, rfl, PAt.tk (tk_same s1) h3⟩, trivial⟩
/-! ### turned_parts -/
abbrev sturned_parts : Stmt := top 17
theorem scturned_parts : FnScope ["part"] ["part"] (defScope sturned_parts) := ⟨rfl, rfl, rfl, by decide +kernel, rfl, by decide +kernel, by decide +kernel⟩
theorem ok_tparts (hS : ∃ a, mg "SIMPLE_HEADS" = some (.ref a) ∧ ∀ H, SqT K H a heads) {f f1 f2 f3 : Addr} {fd d1 d2 d3 : FuncData} (F : Fun K "turned_parts" "turned_parts" sturned_parts f fd) (Gparts_of : FnOk P w K mg base CX0 1 f1 d1 ["term"] spParts) (Rparts_of : Ref K mg "parts_of" f1 d1 ["term"])
    (Gterms_in : FnOk P w K mg base CX0 1 f2 d2 ["part"] spTermsIn) (Rterms_in : Ref K mg "terms_in" f2 d2 ["part"]) (Grest_of : FnOk P w K mg base CX0 1 f3 d3 ["part"] (spKids TrP)) (Rrest_of : Ref K mg "rest_of" f3 d3 ["part"]) : FnOk P w K mg base CX0 2 f fd ["part"] (spKids TrN) := by
  refine F.ok scturned_parts (fun vs H Q E h => ?_) (fun cdv A outer s H vs Q E hr h => ?_)
  · obtain ⟨p, a, rfl, _⟩ := h
    rfl
  obtain ⟨n, a, rfl, hA, q⟩ := h
  obtain ⟨sh, msh, hsh⟩ := hS
  refine ⟨_, (pss_cons (ps_if (pt_cmpR op_in_seq (pe_ix ix_tup (pv 0) pe_int (fun _ _ => rfl)) (pe_glob (v := .ref sh) rfl msh rfl) rfl) (pss_one (ps_ret (pe_call Gparts_of (hr.mono (by omega)) rfl Rparts_of.m Rparts_of.k Rparts_of.b .nil pass0 (pa_cons (pv 0) pa_nil)))) pss_nil)
    (pss_one (ps_ret (pe_op op_catA (pe_call Gterms_in (hr.mono (by omega)) rfl Rterms_in.m Rterms_in.k Rterms_in.b .nil pass0 (pa_cons (pv 0) pa_nil)) (pe_call Grest_of (hr.mono (by omega)) rfl Rrest_of.m Rrest_of.k Rrest_of.b .nil pass0 (pa_cons (pv 0) pa_nil)))))), ?_⟩
  cases n with
  | inr t =>
    obtain ⟨hT, hsi⟩ := hA
    obtain ⟨h, n, k⟩ := t
    obtain ⟨ys, l, hk⟩ := hT
    obtain ⟨r, hd⟩ := l.head
    obtain ⟨e1, e2⟩ := simple_mk hsi
    refine ⟨_, rfl, a, _, _, _, rfl, rfl, SqT.of hd, at0, sh, _, rfl, .inr (hsh _), rfl, rfl, _, rfl, itT ?_ ⟨_, rfl, a, h, _, rfl, l, fun p H1 s1 h1 => ?_⟩⟩
    · show inV (.str (hs h)) heads = true
      rw [flat_in2, e1]
    · refine q p H1 _ s1 h1 ?_
      have z := all2_fn (k := k) (ys := ys) fun i => (hk i).mono s1
      refine All2.map (f := Sum.inr) (all2_mem z fun u hu v hv => ?_)
      obtain ⟨b, rfl, hb⟩ := hv
      obtain ⟨i, rfl⟩ := List.mem_ofFn.mp hu
      exact ⟨b, rfl, hb, e2 i⟩
  | inl p =>
    obtain ⟨hA', hk⟩ : PAt H p a ∧ kP p := hA
    obtain ⟨r, hd⟩ := hA'.head
    refine ⟨_, rfl, a, _, _, _, rfl, rfl, SqT.of hd, at0, sh, _, rfl, .inr (hsh _), rfl, rfl, _, rfl, itF ?_ ⟨_, rfl, a, p, rfl, hA', fun H1 b1 us1 s1 g1 k1 => ?_⟩⟩
    · show inV (.str (hsP p)) heads = false
      cases p <;> rfl
    · refine ⟨_, rfl, p, a, rfl, PAt.tk (tk_same s1) hA', fun b2 H2 us2 s2 g2 k2 => ?_⟩
      have z1 := k1.len
      have z2 := k2.len
      have l1 : (termsP p).length ≤ 4 := by
        cases p with
        | ask f ts j => exact hk.2.2.1
        | _ => show (_ : List Tm).length ≤ 4; simp [termsP]
      have l2 : (restP p).length ≤ 2 := by cases p <;> simp [restP]
      refine catA_of (s2 _ _ g1) g2 (by show us1.length + us2.length ≤ 100000; rw [z1, z2]; show (termsP p).length + (restP p).length ≤ 100000; omega) fun b3 H3 s3 g3 => ?_
      refine q b3 H3 _ ((s1.trans s2).trans s3) g3 ?_
      refine All2.app (All2.map (f := Sum.inr) (all2_mem k1 fun t ht v hv => ?_)) (All2.map (f := Sum.inl) (all2_mem k2 fun u hu v hv => ?_))
      · obtain ⟨b, e, hb⟩ := hv
        exact ⟨b, e, hb.mono (s2.trans s3), kP_terms hk t ht⟩
      · obtain ⟨b, e, hb⟩ := hv
        exact ⟨b, e, PAt.tk (tk_same s3) hb, kP_rest hk u hu⟩
end
end KB

namespace KB
open PySem L2 HT

theorem at3 {x y z u : V} {r : List V} : atI (x :: y :: z :: u :: r) 3 = some u := at_of (j := 3) rfl rfl
theorem at4 {x y z u t : V} {r : List V} : atI (x :: y :: z :: u :: t :: r) 4 = some t := at_of (j := 4) rfl rfl
/-! ### the law's own walks -/
def lkids : Pt → List (Int × Pt)
  | .give _ _ => []
  | .ask _ _ _ => []
  | .tell _ _ p => [(1, p)]
  | .lett _ _ p => [(1, p)]
  | .iff _ p q => [(1, p), (2, q)]
  | .post _ _ p q => [(0, p), (1, q)]
def allP : Pt → List (List Int × Pt)
  | .give j t => [([], .give j t)]
  | .ask f ts j => [([], .ask f ts j)]
  | .tell x t p => ([], .tell x t p) :: ((allP p).map (fun e => ((1 : Int) :: e.1, e.2)) ++ [])
  | .lett x t p => ([], .lett x t p) :: ((allP p).map (fun e => ((1 : Int) :: e.1, e.2)) ++ [])
  | .iff t p q => ([], .iff t p q) :: ((allP p).map (fun e => ((1 : Int) :: e.1, e.2)) ++ ((allP q).map (fun e => ((2 : Int) :: e.1, e.2)) ++ []))
  | .post j x p q => ([], .post j x p q) :: ((allP p).map (fun e => ((0 : Int) :: e.1, e.2)) ++ ((allP q).map (fun e => ((1 : Int) :: e.1, e.2)) ++ []))
def allK (ks : List (Int × Pt)) : List (List Int × Pt) := (ks.map fun k => (allP k.2).map fun e => (k.1 :: e.1, e.2)).flatten
theorem allP_mk (p : Pt) : allP p = ([], p) :: allK (lkids p) := by cases p <;> rfl
def endsP : Pt → List Str
  | .give j _ => [j]
  | .ask _ _ j => [j]
  | .tell _ _ p => endsP p ++ []
  | .lett _ _ p => endsP p ++ []
  | .iff _ p q => endsP p ++ (endsP q ++ [])
  | .post _ _ p q => endsP p ++ (endsP q ++ [])
def endsK (ks : List (Int × Pt)) : List Str := (ks.map fun k => endsP k.2).flatten
theorem pc_pos : ∀ p : Pt, 1 ≤ pcnt p := fun p => TrP.pos p
theorem allP_len : ∀ p : Pt, (allP p).length = pcnt p
  | .give j t => rfl
  | .ask f ts j => rfl
  | .tell x t p => by simp [allP, pcnt, allP_len p]; omega
  | .lett x t p => by simp [allP, pcnt, allP_len p]; omega
  | .iff t p q => by simp [allP, pcnt, allP_len p, allP_len q]; omega
  | .post j x p q => by simp [allP, pcnt, allP_len p, allP_len q]; omega
theorem endsP_len : ∀ p : Pt, (endsP p).length ≤ pcnt p
  | .give j t => Nat.le_refl 1
  | .ask f ts j => Nat.le_refl 1
  | .tell x t p => by have := endsP_len p; simp [endsP, pcnt]; omega
  | .lett x t p => by have := endsP_len p; simp [endsP, pcnt]; omega
  | .iff t p q => by have := endsP_len p; have := endsP_len q; simp [endsP, pcnt]; omega
  | .post j x p q => by have := endsP_len p; have := endsP_len q; simp [endsP, pcnt]; omega
theorem lk_len (p : Pt) : (lkids p).length ≤ 2 := by cases p <;> simp [lkids]
theorem lk_cnt {p : Pt} {k : Int × Pt} (h : k ∈ lkids p) : pcnt k.2 < pcnt p := by
  cases p with
  | give j t => cases h
  | ask f ts j => cases h
  | tell x t p => rw [List.mem_singleton.mp h]; show pcnt p < 1 + pcnt p; omega
  | lett x t p => rw [List.mem_singleton.mp h]; show pcnt p < 1 + pcnt p; omega
  | iff t p q =>
    rcases List.mem_cons.mp h with z | z
    · rw [z]; show pcnt p < 1 + pcnt p + pcnt q; omega
    · rw [List.mem_singleton.mp z]; show pcnt q < 1 + pcnt p + pcnt q; omega
  | post j x p q =>
    rcases List.mem_cons.mp h with z | z
    · rw [z]; show pcnt p < 1 + pcnt p + pcnt q; omega
    · rw [List.mem_singleton.mp z]; show pcnt q < 1 + pcnt p + pcnt q; omega
def kcnt (ks : List (Int × Pt)) : Nat := (ks.map fun k => pcnt k.2).sum
theorem kcnt_lk (p : Pt) : kcnt (lkids p) < pcnt p := by
  cases p <;> simp [kcnt, lkids, pcnt] <;> omega
theorem kcnt_take (ks : List (Int × Pt)) (i : Nat) : kcnt (ks.take i) ≤ kcnt ks := by
  have e : kcnt ks = kcnt (ks.take i) + kcnt (ks.drop i) := by
    unfold kcnt
    rw [← List.sum_append, ← List.map_append, List.take_append_drop]
  omega
theorem allK_len : ∀ ks : List (Int × Pt), (allK ks).length = kcnt ks
  | [] => rfl
  | k :: r => by
    show ((allP k.2).map (fun e => (k.1 :: e.1, e.2)) ++ allK r).length = pcnt k.2 + kcnt r
    rw [List.length_append, List.length_map, allP_len, allK_len r]
theorem endsK_len : ∀ ks : List (Int × Pt), (endsK ks).length ≤ kcnt ks
  | [] => Nat.le_refl _
  | k :: r => by
    have := endsK_len r
    have := endsP_len k.2
    show (endsP k.2 ++ endsK r).length ≤ pcnt k.2 + kcnt r
    rw [List.length_append]
    omega
theorem allK_take {ks : List (Int × Pt)} {i : Nat} {k : Int × Pt} (h : ks[i]? = some k) : allK (ks.take (i + 1)) = allK (ks.take i) ++ (allP k.2).map fun e => (k.1 :: e.1, e.2) := by
  obtain ⟨hi, he⟩ := List.getElem?_eq_some_iff.mp h
  unfold allK
  rw [List.take_succ_eq_append_getElem hi, List.map_append, List.flatten_append, he]
  simp
theorem endsK_take {ks : List (Int × Pt)} {i : Nat} {k : Int × Pt} (h : ks[i]? = some k) : endsK (ks.take (i + 1)) = endsK (ks.take i) ++ endsP k.2 := by
  obtain ⟨hi, he⟩ := List.getElem?_eq_some_iff.mp h
  unfold endsK
  rw [List.take_succ_eq_append_getElem hi, List.map_append, List.flatten_append, he]
  simp
/-- a part within, by its number -/
def KidV (H : Hp) (k : Int × Pt) (v : V) : Prop := ∃ q b, v = .ref q ∧ H q = some (.tup [.int k.1, .ref b]) ∧ PAt H k.2 b
theorem KidV.tk {H H' : Hp} (e : TK H H') {k : Int × Pt} {v : V} (h : KidV H k v) : KidV H' k v := let ⟨q, b, e1, h1, h2⟩ := h; ⟨q, b, e1, e _ _ h1, h2.tk e⟩
theorem EntV.deep {H : Hp} {pre : List V} {i : Int} {e : List Int × Pt} {v : V} (h : EntV PAt H (pre ++ [.int i]) e v) : EntV PAt H pre (i :: e.1, e.2) v := by
  obtain ⟨q, r, b, e1, h1, h2, h3⟩ := h
  refine ⟨q, r, b, e1, h1, ?_, h3⟩
  rw [h2, List.append_assoc]
  rfl
theorem EntV.tkP {H H' : Hp} (e : TK H H') {pre : List V} {kt : List Int × Pt} {v : V} (h : EntV PAt H pre kt v) : EntV PAt H' pre kt v := EntV.tk (fun t z => PAt.tk t z) e h
theorem flat_strs : ∀ xs : List Str, (xs.map V.str).all flatV = true
  | [] => rfl
  | x :: r => by
    rw [List.map_cons, List.all_cons, flat_strs r]
    rfl

theorem hsP_give {p : Pt} (h : hsP p = "give") : ∃ j t, p = .give j t := by
  cases p <;> dsimp only [hsP] at h <;> first | exact ⟨_, _, rfl⟩ | exact absurd h (by decide)
theorem hsP_ask {p : Pt} (h : hsP p = "ask") : ∃ f ts j, p = .ask f ts j := by
  cases p <;> dsimp only [hsP] at h <;> first | exact ⟨_, _, _, rfl⟩ | exact absurd h (by decide)
section
variable {P : Program} {w : World} {K : PySem.W.Frag} {mg : Str → Option Value} {base : Heap}
/-! ### _law_kids -/
def spLKids : Sp := fun vs H Q _ => ∃ (a : Addr) (p : Pt), vs = [.ref a] ∧ PAt H p a ∧ ∀ r H' us, H r = none → Same H H' → H' r = some (.lst us) → All2 (KidV H') (lkids p) us → Q (.ref r) H'
abbrev s_law_kids : Stmt := top 30
theorem scLkids : FnScope ["part"] ["part"] (defScope s_law_kids) := ⟨rfl, rfl, rfl, by decide +kernel, rfl, by decide +kernel, by decide +kernel⟩
theorem ok_lkids {f : Addr} {fd : FuncData} (F : Fun K "_law_kids" "_law_kids" s_law_kids f fd) : FnOk P w K mg base CX0 1 f fd ["part"] spLKids := by
  refine F.ok scLkids (fun vs H Q E h => ?_) (fun cdv A outer s H vs Q E hr h => ?_)
  · obtain ⟨a, p, rfl, _⟩ := h
    rfl
  obtain ⟨a, p, rfl, hA, q⟩ := h
  refine ⟨_, (pss_cons (ps_if (PW.pt (pw_or (pt_cmpR op_eq (pe_ix ix_tup (pv 0) pe_int (fun _ _ => rfl)) pe_str (nomark _)) (pw_or1 (pt_cmpR op_eq (pe_ix ix_tup (pv 0) pe_int (fun _ _ => rfl)) pe_str (nomark _))))) (pss_one (ps_ret (pe_lst pa_nil))) pss_nil)
    (pss_cons (ps_if (pt_cmpR op_eq (pe_ix ix_tup (pv 0) pe_int (fun _ _ => rfl)) pe_str (nomark _)) (pss_one (ps_ret (pe_lst (pa_cons (pe_tup (pa_cons pe_int (pa_cons (pe_ix ix_tup (pv 0) pe_int (fun _ _ => rfl)) pa_nil))) (pa_cons (pe_tup (pa_cons pe_int (pa_cons (pe_ix ix_tup (pv 0) pe_int (fun _ _ => rfl)) pa_nil))) pa_nil))))) pss_nil)
    (pss_cons (ps_if (pt_cmpR op_eq (pe_ix ix_tup (pv 0) pe_int (fun _ _ => rfl)) pe_str (nomark _)) (pss_one (ps_ret (pe_lst (pa_cons (pe_tup (pa_cons pe_int (pa_cons (pe_ix ix_tup (pv 0) pe_int (fun _ _ => rfl)) pa_nil))) (pa_cons (pe_tup (pa_cons pe_int (pa_cons (pe_ix ix_tup (pv 0) pe_int (fun _ _ => rfl)) pa_nil))) pa_nil))))) pss_nil)
    (pss_one (ps_ret (pe_lst (pa_cons (pe_tup (pa_cons pe_int (pa_cons (pe_ix ix_tup (pv 0) pe_int (fun _ _ => rfl)) pa_nil))) pa_nil))))))), ?_⟩
  obtain ⟨r0, hd⟩ := hA.head
  refine ⟨_, rfl, a, _, _, _, rfl, rfl, SqT.of hd, at0, rfl, _, rfl, ?_⟩
  cases p with
  | give j t => exact itT rfl (itT rfl ⟨sz (by show 0 ≤ 100000; decide), fun r hr => q r _ [] hr (same_new hr _) upd_same trivial⟩)
  | ask g ts j => exact itF rfl ⟨_, rfl, a, _, _, _, rfl, rfl, SqT.of hd, at0, rfl, _, rfl, itT rfl ⟨sz (by show 0 ≤ 100000; decide), fun r hr => q r _ [] hr (same_new hr _) upd_same trivial⟩⟩
  | post j x p p2 =>
    obtain ⟨c, d, h1, h2, h3⟩ := hA
    refine itF rfl ⟨_, rfl, a, _, _, _, rfl, rfl, SqT.of h1, at0, rfl, _, rfl, itF rfl ⟨_, rfl, a, _, _, _, rfl, rfl, SqT.of h1, at0, rfl, _, rfl, itT rfl ?_⟩⟩
    refine ⟨_, rfl, a, _, _, _, rfl, rfl, SqT.of h1, at3, sz (by show 2 ≤ 100000; decide), fun t1 ht1 => ?_⟩
    have s1 := same_new ht1 (.tup [.int 0, .ref c])
    refine ⟨_, rfl, a, _, _, _, rfl, rfl, SqT.of (s1 _ _ h1), at4, sz (by show 2 ≤ 100000; decide), fun t2 ht2 => ?_⟩
    have s2 := same_new ht2 (.tup [.int 1, .ref d])
    refine ⟨sz (by show 2 ≤ 100000; decide), fun r hr => ?_⟩
    have s3 := same_new hr (.lst [.ref t1, .ref t2])
    have s := s1.trans (s2.trans s3)
    exact q r _ _ ((s1.trans s2).free hr) s upd_same ⟨⟨t1, c, rfl, (s2.trans s3) _ _ upd_same, h2.tk (tk_same s)⟩, ⟨t2, d, rfl, s3 _ _ upd_same, h3.tk (tk_same s)⟩, trivial⟩
  | iff t p p2 =>
    obtain ⟨b, c, d, h1, h2, h3, h4⟩ := hA
    refine itF rfl ⟨_, rfl, a, _, _, _, rfl, rfl, SqT.of h1, at0, rfl, _, rfl, itF rfl ⟨_, rfl, a, _, _, _, rfl, rfl, SqT.of h1, at0, rfl, _, rfl, itF rfl ⟨_, rfl, a, _, _, _, rfl, rfl, SqT.of h1, at0, rfl, _, rfl, itT rfl ?_⟩⟩⟩
    refine ⟨_, rfl, a, _, _, _, rfl, rfl, SqT.of h1, at2, sz (by show 2 ≤ 100000; decide), fun t1 ht1 => ?_⟩
    have s1 := same_new ht1 (.tup [.int 1, .ref c])
    refine ⟨_, rfl, a, _, _, _, rfl, rfl, SqT.of (s1 _ _ h1), at3, sz (by show 2 ≤ 100000; decide), fun t2 ht2 => ?_⟩
    have s2 := same_new ht2 (.tup [.int 2, .ref d])
    refine ⟨sz (by show 2 ≤ 100000; decide), fun r hr => ?_⟩
    have s3 := same_new hr (.lst [.ref t1, .ref t2])
    have s := s1.trans (s2.trans s3)
    exact q r _ _ ((s1.trans s2).free hr) s upd_same ⟨⟨t1, c, rfl, (s2.trans s3) _ _ upd_same, h3.tk (tk_same s)⟩, ⟨t2, d, rfl, s3 _ _ upd_same, h4.tk (tk_same s)⟩, trivial⟩
  | tell x t p =>
    obtain ⟨b, c, h1, h2, h3⟩ := hA
    refine itF rfl ⟨_, rfl, a, _, _, _, rfl, rfl, SqT.of h1, at0, rfl, _, rfl, itF rfl ⟨_, rfl, a, _, _, _, rfl, rfl, SqT.of h1, at0, rfl, _, rfl, itF rfl ⟨_, rfl, a, _, _, _, rfl, rfl, SqT.of h1, at0, rfl, _, rfl, itF rfl ?_⟩⟩⟩
    refine ⟨_, rfl, a, _, _, _, rfl, rfl, SqT.of h1, at3, sz (by show 2 ≤ 100000; decide), fun t1 ht1 => ?_⟩
    have s1 := same_new ht1 (.tup [.int 1, .ref c])
    refine ⟨sz (by show 1 ≤ 100000; decide), fun r hr => ?_⟩
    have s3 := same_new hr (.lst [.ref t1])
    exact q r _ _ (s1.free hr) (s1.trans s3) upd_same ⟨⟨t1, c, rfl, s3 _ _ upd_same, h3.tk (tk_same (s1.trans s3))⟩, trivial⟩
  | lett x t p =>
    obtain ⟨b, c, h1, h2, h3⟩ := hA
    refine itF rfl ⟨_, rfl, a, _, _, _, rfl, rfl, SqT.of h1, at0, rfl, _, rfl, itF rfl ⟨_, rfl, a, _, _, _, rfl, rfl, SqT.of h1, at0, rfl, _, rfl, itF rfl ⟨_, rfl, a, _, _, _, rfl, rfl, SqT.of h1, at0, rfl, _, rfl, itF rfl ?_⟩⟩⟩
    refine ⟨_, rfl, a, _, _, _, rfl, rfl, SqT.of h1, at3, sz (by show 2 ≤ 100000; decide), fun t1 ht1 => ?_⟩
    have s1 := same_new ht1 (.tup [.int 1, .ref c])
    refine ⟨sz (by show 1 ≤ 100000; decide), fun r hr => ?_⟩
    have s3 := same_new hr (.lst [.ref t1])
    exact q r _ _ (s1.free hr) (s1.trans s3) upd_same ⟨⟨t1, c, rfl, s3 _ _ upd_same, h3.tk (tk_same (s1.trans s3))⟩, trivial⟩
/-! ### _law_all -/
def spLAll : Nat → Sp
  | 0 => fun _ _ _ _ => False
  | n + 1 => fun vs H Q _ => ∃ (a pl : Addr) (p : Pt) (pre : List V), vs = [.ref a, .ref pl] ∧ PAt H p a ∧ pcnt p ≤ n + 1 ∧ pcnt p ≤ 1000 ∧ H pl = some (.tup pre) ∧ pre.length + n ≤ 2000 ∧ ∀ r H' us, H r = none → Same H H' → H' r = some (.lst us) → All2 (EntV PAt H' pre) (allP p) us → Q (.ref r) H'
abbrev s_law_all : Stmt := top 31
theorem scLall : FnScope ["part", "place", "found", "number", "one"] ["part", "place"] (defScope s_law_all) := ⟨rfl, rfl, rfl, by decide +kernel, rfl, by decide +kernel, by decide +kernel⟩
theorem ok_lall (n : Nat) {f f1 : Addr} {fd d1 : FuncData} (F : Fun K "_law_all" "_law_all" s_law_all f fd) (G_law_kids : FnOk P w K mg base CX0 1 f1 d1 ["part"] spLKids) (R_law_kids : Ref K mg "_law_kids" f1 d1 ["part"])
    (G_law_all : FnOk P w K mg base CX0 (n + 1) f fd ["part", "place"] (spLAll n)) (R_law_all : Ref K mg "_law_all" f fd ["part", "place"]) : FnOk P w K mg base CX0 (n + 2) f fd ["part", "place"] (spLAll (n + 1)) := by
  refine F.ok scLall (fun vs H Q E h => ?_) (fun cdv A outer s H vs Q E hr h => ?_)
  · obtain ⟨a, pl, p, pre, rfl, _⟩ := h
    rfl
  obtain ⟨a, pl, p, pre, rfl, hA, hn, hk, hpl, hpr, q⟩ := h
  refine ⟨_, (pss_cons (ps_set (i := 2) scLall.nd rfl (Or.inl rfl) (pe_lst (pa_cons (pe_tup (pa_cons (pv 1) (pa_cons (pv 0) pa_nil))) pa_nil)))
    (pss_cons (ps_for PassesOwn.never rfl (pi_list (pe_call G_law_kids (hr.mono (by omega)) rfl R_law_kids.m R_law_kids.k R_law_kids.b .nil pass0 (pa_cons (pv 0) pa_nil))) (pg_tup rfl (pgs_cons (pg_name (i := 3) scLall.nd rfl (Or.inl rfl)) (pgs_cons (pg_name (i := 4) scLall.nd rfl (Or.inl rfl)) pgs_nil))) (pss_one (ps_set (i := 2) scLall.nd rfl (Or.inl rfl) (pe_op op_cat (pv 2) (pe_call G_law_all (hr.mono (by omega)) rfl R_law_all.m R_law_all.k R_law_all.b .nil pass0 (pa_cons (pv 4) (pa_cons (pe_op op_catA (pv 1) (pe_tup (pa_cons (pv 3) pa_nil))) pa_nil)))))))
    (pss_one (ps_ret (pv 2))))), ?_⟩
  refine ⟨_, rfl, _, rfl, sz (by show 2 ≤ 100000; decide), fun t0 ht0 => ?_⟩
  have s1 := same_new ht0 (.tup [.ref pl, .ref a])
  refine ⟨sz (by show 1 ≤ 100000; decide), fun fl0 hfl0 => ?_⟩
  have s2 := same_new hfl0 (.lst [.ref t0])
  have s12 := s1.trans s2
  refine ⟨_, rfl, a, p, rfl, hA.tk (tk_same s12), fun kl H1 ks hkl s3 hk1 kk1 => ?_⟩
  have s13 := s12.trans s3
  have hlk := kk1.len
  refine ⟨kl, rfl, ⟨_, SqL.of hk1⟩, for_list (K := K) (a := kl) (xs := ks) (fun i σ H' => ∃ fl fv o3 o4, σ = [some (.ref a), some (.ref pl), some (.ref fl), o3, o4] ∧ H fl = none ∧ Same H1 H' ∧ H' fl = some (.lst fv) ∧ All2 (EntV PAt H' pre) (([], p) :: allK ((lkids p).take i)) fv) ?_ ?_ ?_ ?_⟩
  · refine ⟨fl0, [.ref t0], none, none, rfl, s1.free hfl0, Same.refl _, s3 _ _ upd_same, ?_⟩
    rw [List.take_zero]
    refine ⟨⟨t0, pl, a, rfl, s3 _ _ (s2 _ _ upd_same), ?_, hA.tk (tk_same s13)⟩, trivial⟩
    rw [List.map_nil, List.append_nil]
    exact s13 _ _ hpl
  · rintro i σ H' _ ⟨fl, fv, o3, o4, rfl, _, s4, _⟩
    exact SqL.of (s4 _ _ hk1)
  · rintro i x σ H2 hx ⟨fl, fv, o3, o4, rfl, hf0, s4, hf, kf⟩
    obtain ⟨k, hk', qa, b, rfl, g1, g2⟩ := kk1.get hx
    have hkm := mem_of_get hk'
    have hkc := lk_cnt hkm
    refine ⟨qa, _, rfl, SqT.of (s4 _ _ g1), rfl, _, _, rfl, _, _, rfl, rfl, ?_⟩
    have sH2 := s13.trans s4
    refine ⟨_, rfl, _, rfl, _, rfl, _, rfl, sz (by show 1 ≤ 100000; decide), fun t1 ht1 => ?_⟩
    have s5 := same_new ht1 (.tup [.int k.1])
    refine catA_of (s5 _ _ (sH2 _ _ hpl)) upd_same (by show pre.length + 1 ≤ 100000; omega) fun t2 H3 s6 g3 => ?_
    have s56 := s5.trans s6
    cases n with
    | zero => have := pc_pos k.2; omega
    | succ n =>
      refine ⟨b, t2, k.2, _, rfl, (g2.tk (tk_same s4)).tk (tk_same s56), by omega, by omega, g3, by rw [List.length_append, List.length_singleton]; omega, fun r H4 us hr4 s7 g4 k4 => ?_⟩
      have s57 := s56.trans s7
      have e1 := kf.len
      have e2 := k4.len
      rw [allP_len] at e2
      have e3 : (([], p) :: allK ((lkids p).take i)).length ≤ 1000 := by
        rw [List.length_cons, allK_len]
        have := kcnt_take (lkids p) i
        have := kcnt_lk p
        omega
      refine ⟨fl, r, _, _, rfl, rfl, s57 _ _ hf, g4, sz (by omega), fun p5 hp5 => ?_⟩
      have s8 := same_new hp5 (.lst (fv ++ us))
      refine ⟨p5, fv ++ us, _, _, rfl, ?_, s4.trans (s57.trans s8), upd_same, ?_⟩
      · exact (sH2.trans s57).free hp5
      · rw [allK_take hk']
        exact All2.app (as := ([], p) :: allK ((lkids p).take i)) (kf.imp fun _ _ z => EntV.tkP (tk_same (s57.trans s8)) z) (All2.map (f := fun (e : List Int × Pt) => (k.1 :: e.1, e.2)) (k4.imp fun _ _ z => EntV.tkP (tk_same s8) (EntV.deep z)))
  · rintro σ H2 ⟨fl, fv, o3, o4, rfl, hf0, s4, hf, kf⟩
    refine ⟨_, rfl, ?_⟩
    rw [hlk, List.take_length, ← allP_mk] at kf
    exact q fl H2 fv hf0 (s13.trans s4) hf kf
theorem all_lall {f f1 : Addr} {fd d1 : FuncData} (F : Fun K "_law_all" "_law_all" s_law_all f fd) (G_law_kids : FnOk P w K mg base CX0 1 f1 d1 ["part"] spLKids) (R_law_kids : Ref K mg "_law_kids" f1 d1 ["part"]) (R_law_all : Ref K mg "_law_all" f fd ["part", "place"]) : ∀ n : Nat, FnOk P w K mg base CX0 (n + 1) f fd ["part", "place"] (spLAll n)
  | 0 => no_sp
  | n + 1 => ok_lall n F G_law_kids R_law_kids (all_lall F G_law_kids R_law_kids R_law_all n) R_law_all
end
end KB

namespace KB
open PySem PySem.Spec PyProof.Rows L2

theorem u65 {k : Nat} {A : Around} (r : Room k A) : A.units + 65 < cLine := by have := r.un; omega
/-! ### l.count(x) over data -/
def rCountD (K : PySem.W.Frag) : V → List V → Hp → VK → Prop := fun x xs H Q => ∃ (a : Addr) (y : V) (d : PyData) (ds : List PyData), x = V.ref a ∧ xs = [y] ∧ Dp K H (V.ref a) (.list ds) ∧ Dp K H y d ∧
  SeqAt.shaped (.list ds) = true ∧ SeqAt.shaped d = true ∧ Q (.int (ds.countP fun z => PyData.eqv z d : Nat)) H
theorem mt_countD {X : Cx} (hu : X.A.units + 65 < cLine) : MtR X "list.count" (rCountD X.K) := by
  intro pins s σ H x xs v us Q I rx rxs h
  obtain ⟨a, y, d, ds, rfl, rfl, hl, hy, sl, sd, q⟩ := h
  cases rx
  cases rxs with
  | cons ry rt =>
    rename_i uy ut
    cases rt
    obtain ⟨bs, r1⟩ := Dp.reads I d y uy hy ry
    have hxs : PyData.canLayAll0 ds = true := SeqAt.canLay_of_shaped sl
    have hroom : X.A.units + 1 + min (PyData.depthAll ds) d.depth < cLine := room_in_shaped sd hu
    cases hl with
    | lst hs ha =>
      obtain ⟨its, rv, ⟨⟨cls, dd, data, sls⟩, n, ho, hc, hdn, hdt⟩, hlen⟩ := I.list hs
      simp only at hc hdt
      subst hc hdt
      obtain ⟨as, h4⟩ := Dp.readsAll I ds _ its ha rv
      have hmap : its.map (SeqAt.readOf s.heap) = ds := SeqAt.readsAll_map ds its as hxs h4
      refine call_meets PySem.F.slot_list_count ⟨_, ho, rfl⟩ PySem.F.entry_list_count (PySem.F.args_list_count_2 _ _)
        (SeqAt.list_countAt a its.toArray n dd sls uy (fun u => PyData.eqv (SeqAt.readOf s.heap u) d)) ⟨ho, SeqAt.items_eqAt (vs := its.toArray) (show ReadsAll s.heap its.toArray.toList ds as from h4) r1 hxs (SeqAt.canLay_of_shaped sd) hroom, ?_⟩
      have ec : its.toArray.toList.countP (fun u => PyData.eqv (SeqAt.readOf s.heap u) d) = ds.countP fun z => PyData.eqv z d := by
        rw [← hmap, List.countP_map]
        rfl
      refine ⟨.int (ds.countP fun z => PyData.eqv z d : Nat), H, I.tok _, ⟨s.toks, ?_⟩, q⟩
      show Value.int ((its.toArray.toList.countP (fun u => PyData.eqv (SeqAt.readOf s.heap u) d) : Nat) : Int) s.toks = Value.int ((ds.countP fun z => PyData.eqv z d : Nat) : Int) s.toks
      rw [ec]
end KB

namespace KB
open PySem L2

/-! ### simple terms, seen -/
inductive ST
  | num (z : Int)
  | nam (x : Str)
  | two (l : Bool) (a b : ST)
def hdB (l : Bool) : Hd := if l then .less else .plus
def ST.tm : ST → Tm
  | .num z => mkL (.num z) []
  | .nam x => mkL (.nam x) []
  | .two l a b => mkL (hdB l) [a.tm, b.tm]
def SAt (H : Hp) : ST → Addr → Prop
  | .num z, a => H a = some (.tup [.str "number", .int z])
  | .nam x, a => H a = some (.tup [.str "name", .str x])
  | .two l s t, a => ∃ b c, H a = some (.tup [.str (hs (hdB l)), .ref b, .ref c]) ∧ SAt H s b ∧ SAt H t c
theorem SAt.tk {H H' : Hp} (k : TK H H') : ∀ {s : ST} {a : Addr}, SAt H s a → SAt H' s a
  | .num _, _, h => k _ _ h
  | .nam _, _, h => k _ _ h
  | .two _ _ _, _, ⟨b, c, h, h1, h2⟩ => ⟨b, c, k _ _ h, SAt.tk k h1, SAt.tk k h2⟩
def okST : ST → Prop
  | .num _ => True
  | .nam x => isW x = true
  | .two _ a b => okST a ∧ okST b
def scnt : ST → Nat
  | .num _ => 1
  | .nam _ => 1
  | .two _ a b => 1 + scnt a + scnt b
theorem mk_leaf {h : Hd} {n : Nat} (e : n = 0) (k : _root_.Fin n → Tm) : Tm.mk h n k = mkL h [] := by
  subst e
  unfold mkL
  congr
  funext i
  exact i.elim0
theorem mk_two {h : Hd} (k : _root_.Fin 2 → Tm) : Tm.mk h 2 k = mkL h [k 0, k 1] := by
  unfold mkL
  congr
  funext i
  match i with
  | ⟨0, _⟩ => rfl
  | ⟨1, _⟩ => rfl
theorem smp_mk {h : Hd} {n : Nat} {k : _root_.Fin n → Tm} (e : simple (.mk h n k) = true) : flatHd h = true ∧ ∀ i, simple (k i) = true := by
  unfold simple at e
  rw [Bool.and_eq_true] at e
  refine ⟨e.1, fun i => ?_⟩
  have := List.all_eq_true.mp e.2 (simple (k i)) (List.mem_ofFn.mpr ⟨i, rfl⟩)
  exact this
/-- a simple term that stands somewhere is one of three -/
theorem see {H : Hp} : ∀ {t : Tm} {a : Addr}, At H t a → simple t = true → ∃ s : ST, t = s.tm ∧ SAt H s a := by
  intro t
  induction t with
  | mk h n k ih =>
    rintro a ⟨ys, l, r⟩ e
    obtain ⟨hf, hk⟩ := smp_mk e
    have lz : (Rfs ys).length = n := by
      unfold Rfs
      rw [List.length_ofFn]
    have two : ∀ (b : Bool), h = hdB b → n = 2 → H a = some (.tup (.str (hs h) :: Rfs ys)) → ∃ s : ST, Tm.mk h n k = s.tm ∧ SAt H s a := by
      intro b hb hn ha
      subst hn
      obtain ⟨s0, e0, h0⟩ := ih 0 (r 0) (hk 0)
      obtain ⟨s1, e1, h1⟩ := ih 1 (r 1) (hk 1)
      refine ⟨.two b s0 s1, ?_, ys 0, ys 1, ?_, h0, h1⟩
      · rw [mk_two, e0, e1, hb]
        rfl
      · rw [ha, hb]
        rfl
    cases h with
    | num z =>
      have hn : n = 0 := by
        rw [← lz, l.1]
        rfl
      exact ⟨.num z, mk_leaf hn k, l.2⟩
    | nam x =>
      have hn : n = 0 := by
        rw [← lz, l.1]
        rfl
      exact ⟨.nam x, mk_leaf hn k, l.2⟩
    | plus => exact two false rfl (by rw [← lz]; exact l.1) l.2
    | less => exact two true rfl (by rw [← lz]; exact l.1) l.2
    | _ => cases hf
theorem ok_see : ∀ {s : ST}, okT s.tm → okST s
  | .num _, _ => trivial
  | .nam _, h => h.1
  | .two _ a b, h => ⟨ok_see (h.2 ⟨0, Nat.zero_lt_two⟩), ok_see (h.2 ⟨1, Nat.one_lt_two⟩)⟩
theorem cnt_see : ∀ s : ST, cnt s.tm = scnt s
  | .num _ => cnt_mkL
  | .nam _ => cnt_mkL
  | .two l a b => by
    show cnt (mkL (hdB l) [a.tm, b.tm]) = _
    rw [cnt_mkL, cnts_cons, cnts_cons, cnt_see a, cnt_see b]
    show 1 + (scnt a + (scnt b + 0)) = 1 + scnt a + scnt b
    omega
/-- the words in a simple term -/
def nmS : ST → List Str
  | .num _ => []
  | .nam x => [x]
  | .two _ a b => nmS a ++ nmS b
/-- x is taken away somewhere -/
def tkS (x : Str) : ST → Bool
  | .num _ => false
  | .nam _ => false
  | .two l a b => (l && (nmS b).contains x) || (tkS x a || tkS x b)
theorem scnt_pos : ∀ s : ST, 1 ≤ scnt s
  | .num _ => Nat.le_refl _
  | .nam _ => Nat.le_refl _
  | .two _ a b => by show 1 ≤ 1 + scnt a + scnt b; omega
theorem nmS_len : ∀ s : ST, (nmS s).length ≤ scnt s
  | .num _ => Nat.zero_le _
  | .nam _ => Nat.le_refl _
  | .two _ a b => by
    have := nmS_len a
    have := nmS_len b
    show (nmS a ++ nmS b).length ≤ 1 + scnt a + scnt b
    rw [List.length_append]
    omega
section
variable {P : Program} {w : World} {K : PySem.W.Frag} {mg : Str → Option Value} {base : Heap}
/-! ### _law_names_in -/
def spLNm : Nat → Sp
  | 0 => fun _ _ _ _ => False
  | n + 1 => fun vs H Q _ => ∃ (a : Addr) (s : ST), vs = [.ref a] ∧ SAt H s a ∧ scnt s ≤ n + 1 ∧ n ≤ 100 ∧ ∀ r H', Same H H' → H' r = some (.lst ((nmS s).map V.str)) → Q (.ref r) H'
abbrev s_law_names_in : Stmt := top 32
theorem scLnames_in : FnScope ["term"] ["term"] (defScope s_law_names_in) := ⟨rfl, rfl, rfl, by decide +kernel, rfl, by decide +kernel, by decide +kernel⟩
theorem ok_lnm (n : Nat) {f : Addr} {fd : FuncData} (F : Fun K "_law_names_in" "_law_names_in" s_law_names_in f fd) (G_law_names_in : FnOk P w K mg base CX0 n f fd ["term"] (spLNm n)) (R_law_names_in : Ref K mg "_law_names_in" f fd ["term"]) : FnOk P w K mg base CX0 (n + 1) f fd ["term"] (spLNm (n + 1)) := by
  refine F.ok scLnames_in (fun vs H Q E h => ?_) (fun cdv A outer s H vs Q E hr h => ?_)
  · obtain ⟨a, s, rfl, _⟩ := h
    rfl
  obtain ⟨a, s, rfl, hA, hc, hn, q⟩ := h
  refine ⟨_, (pss_cons (ps_if (pt_cmpR op_eq (pe_ix ix_tup (pv 0) pe_int (fun _ _ => rfl)) pe_str (nomark _)) (pss_one (ps_ret (pe_lst (pa_cons (pe_ix ix_tup (pv 0) pe_int (fun _ _ => rfl)) pa_nil)))) pss_nil)
    (pss_cons (ps_if (pt_cmpR op_eq (pe_ix ix_tup (pv 0) pe_int (fun _ _ => rfl)) pe_str (nomark _)) (pss_one (ps_ret (pe_lst pa_nil))) pss_nil)
    (pss_one (ps_ret (pe_op op_cat (pe_call G_law_names_in (hr.mono (by omega)) rfl R_law_names_in.m R_law_names_in.k R_law_names_in.b .nil pass0 (pa_cons (pe_ix ix_tup (pv 0) pe_int (fun _ _ => rfl)) pa_nil)) (pe_call G_law_names_in (hr.mono (by omega)) rfl R_law_names_in.m R_law_names_in.k R_law_names_in.b .nil pass0 (pa_cons (pe_ix ix_tup (pv 0) pe_int (fun _ _ => rfl)) pa_nil))))))), ?_⟩
  cases s with
  | num z =>
    refine ⟨_, rfl, a, _, _, _, rfl, rfl, SqT.of hA, at0, rfl, _, rfl, itF rfl ?_⟩
    exact ⟨_, rfl, a, _, _, _, rfl, rfl, SqT.of hA, at0, rfl, _, rfl, itT rfl ⟨sz (by show 0 ≤ 100000; decide), fun p hp => q p _ (same_new hp _) upd_same⟩⟩
  | nam x =>
    refine ⟨_, rfl, a, _, _, _, rfl, rfl, SqT.of hA, at0, rfl, _, rfl, itT rfl ?_⟩
    exact ⟨_, rfl, a, _, _, _, rfl, rfl, SqT.of hA, at1, sz (by show 1 ≤ 100000; decide), fun p hp => q p _ (same_new hp _) upd_same⟩
  | two l s t =>
    obtain ⟨b, c, h, h1, h2⟩ := hA
    have hc : 1 + scnt s + scnt t ≤ n + 1 := hc
    have p1 := scnt_pos s
    have p2 := scnt_pos t
    obtain ⟨m, rfl⟩ : ∃ m, n = m + 1 := ⟨n - 1, by omega⟩
    have e1 : decide (V.str (hs (hdB l)) = V.str (Str.ofString "name")) = false := by cases l <;> rfl
    have e2 : decide (V.str (hs (hdB l)) = V.str (Str.ofString "number")) = false := by cases l <;> rfl
    refine ⟨_, rfl, a, _, _, _, rfl, rfl, SqT.of h, at0, rfl, _, rfl, itF e1 ?_⟩
    refine ⟨_, rfl, a, _, _, _, rfl, rfl, SqT.of h, at0, rfl, _, rfl, itF e2 ?_⟩
    refine ⟨_, rfl, a, _, _, _, rfl, rfl, SqT.of h, at1, b, s, rfl, h1, by omega, by omega, fun r1 H1 s1 g1 => ?_⟩
    refine ⟨_, rfl, a, _, _, _, rfl, rfl, SqT.of (s1 _ _ h), at2, c, t, rfl, h2.tk (tk_same s1), by omega, by omega, fun r2 H2 s2 g2 => ?_⟩
    have z1 := nmS_len s
    have z2 := nmS_len t
    refine ⟨r1, r2, _, _, rfl, rfl, s2 _ _ g1, g2, sz (by rw [List.length_map, List.length_map]; omega), fun p hp => q p _ ((s1.trans s2).trans (same_new hp _)) ?_⟩
    rw [upd_same]
    show _ = some (HO.lst ((nmS s ++ nmS t).map V.str))
    rw [List.map_append]
theorem all_lnm {f : Addr} {fd : FuncData} (F : Fun K "_law_names_in" "_law_names_in" s_law_names_in f fd) (R_law_names_in : Ref K mg "_law_names_in" f fd ["term"]) : ∀ n : Nat, FnOk P w K mg base CX0 n f fd ["term"] (spLNm n)
  | 0 => no_sp
  | n + 1 => ok_lnm n F (all_lnm F R_law_names_in n) R_law_names_in
/-! ### _law_taken -/
theorem inV_str {x : Str} : ∀ {xs : List Str}, inV (.str x) (xs.map V.str) = xs.contains x
  | [] => rfl
  | y :: r => by
    have ih := inV_str (x := x) (xs := r)
    unfold inV at ih ⊢
    rw [List.map_cons, List.any_cons, List.contains_cons, ih]
    congr 1
    show decide (y = x) = (x == y)
    by_cases h : y = x
    · subst h
      simp
    · rw [decide_eq_false h]
      exact (beq_eq_false_iff_ne.mpr (fun z => h z.symm)).symm
def spLTk : Nat → Sp
  | 0 => fun _ _ _ _ => False
  | n + 1 => fun vs H Q _ => ∃ (a : Addr) (s : ST) (x : Str), vs = [.ref a, .str x] ∧ SAt H s a ∧ scnt s ≤ n + 1 ∧ n ≤ 30 ∧ ∀ H', Same H H' → Q (.bl (tkS x s)) H'
abbrev s_law_taken : Stmt := top 37
theorem scLtaken : FnScope ["term", "x"] ["term", "x"] (defScope s_law_taken) := ⟨rfl, rfl, rfl, by decide +kernel, rfl, by decide +kernel, by decide +kernel⟩
theorem ok_ltk (n : Nat) {f f1 : Addr} {fd d1 : FuncData} (F : Fun K "_law_taken" "_law_taken" s_law_taken f fd) (G_law_names_in : FnOk P w K mg base CX0 31 f1 d1 ["term"] (spLNm 31)) (R_law_names_in : Ref K mg "_law_names_in" f1 d1 ["term"])
    (G_law_taken : FnOk P w K mg base CX0 (n + 31) f fd ["term", "x"] (spLTk n)) (R_law_taken : Ref K mg "_law_taken" f fd ["term", "x"]) : FnOk P w K mg base CX0 (n + 32) f fd ["term", "x"] (spLTk (n + 1)) := by
  refine F.ok scLtaken (fun vs H Q E h => ?_) (fun cdv A outer s H vs Q E hr h => ?_)
  · obtain ⟨a, s, x, rfl, _⟩ := h
    rfl
  obtain ⟨a, s, x, rfl, hA, hc, hn, q⟩ := h
  refine ⟨_, (pss_cons (ps_if (PW.pt (pw_or (pt_cmpR op_eq (pe_ix ix_tup (pv 0) pe_int (fun _ _ => rfl)) pe_str (nomark _)) (pw_or1 (pt_cmpR op_eq (pe_ix ix_tup (pv 0) pe_int (fun _ _ => rfl)) pe_str (nomark _))))) (pss_one (ps_ret pe_bl)) pss_nil)
    (pss_cons (ps_if (PW.pt (pw_and (pt_cmpR op_eq (pe_ix ix_tup (pv 0) pe_int (fun _ _ => rfl)) pe_str (nomark _)) (pw_and1 (pt_cmpR op_in_seq (pv 1) (pe_call G_law_names_in (hr.mono (by omega)) rfl R_law_names_in.m R_law_names_in.k R_law_names_in.b .nil pass0 (pa_cons (pe_ix ix_tup (pv 0) pe_int (fun _ _ => rfl)) pa_nil)) rfl)))) (pss_one (ps_ret pe_bl)) pss_nil)
    (pss_one (ps_ret (pe_or (pe_call G_law_taken (hr.mono (by omega)) rfl R_law_taken.m R_law_taken.k R_law_taken.b .nil pass0 (pa_cons (pe_ix ix_tup (pv 0) pe_int (fun _ _ => rfl)) (pa_cons (pv 1) pa_nil))) (pe_one (pe_call G_law_taken (hr.mono (by omega)) rfl R_law_taken.m R_law_taken.k R_law_taken.b .nil pass0 (pa_cons (pe_ix ix_tup (pv 0) pe_int (fun _ _ => rfl)) (pa_cons (pv 1) pa_nil))))))))), ?_⟩
  cases s with
  | num z =>
    refine ⟨_, rfl, a, _, _, _, rfl, rfl, SqT.of hA, at0, rfl, _, rfl, itT rfl ?_⟩
    exact itT rfl (q H (fun _ _ h => h))
  | nam y =>
    refine ⟨_, rfl, a, _, _, _, rfl, rfl, SqT.of hA, at0, rfl, _, rfl, itF rfl ?_⟩
    exact ⟨_, rfl, a, _, _, _, rfl, rfl, SqT.of hA, at0, rfl, _, rfl, itT rfl (q H (fun _ _ h => h))⟩
  | two l s t =>
    obtain ⟨b, c, h, h1, h2⟩ := hA
    have hc : 1 + scnt s + scnt t ≤ n + 1 := hc
    have p1 := scnt_pos s
    have p2 := scnt_pos t
    obtain ⟨m, rfl⟩ : ∃ m, n = m + 1 := ⟨n - 1, by omega⟩
    have e1 : decide (V.str (hs (hdB l)) = V.str (Str.ofString "number")) = false := by cases l <;> rfl
    have e2 : decide (V.str (hs (hdB l)) = V.str (Str.ofString "name")) = false := by cases l <;> rfl
    refine ⟨_, rfl, a, _, _, _, rfl, rfl, SqT.of h, at0, rfl, _, rfl, itF e1 ?_⟩
    refine ⟨_, rfl, a, _, _, _, rfl, rfl, SqT.of h, at0, rfl, _, rfl, itF e2 ?_⟩
    have last : ∀ H1, Same H H1 → (∀ H2, Same H H2 → (tkS x s || tkS x t) = tkS x (.two l s t)) → (tRet (tOrV (tCall (spLTk (m + 1)) [] E0 (tCons (tOp (rIxT K) (tVar 0) (tC (V.int 1))) (tCons (tVar 1) tNil))) (tCall (spLTk (m + 1)) [] E0 (tCons (tOp (rIxT K) (tVar 0) (tC (V.int 2))) (tCons (tVar 1) tNil))))) { nx := fun x H' => Q V.non H', rt := Q } [some (V.ref a), some (V.str x)] H1 := by
      intro H1 s1 he
      refine ⟨_, rfl, a, _, _, _, rfl, rfl, SqT.of (s1 _ _ h), at1, _, rfl, b, s, x, rfl, h1.tk (tk_same s1), by omega, by omega, fun H2 s2 => ?_⟩
      refine ⟨_, rfl, ?_⟩
      have e := he H1 s1
      cases hs1 : tkS x s with
      | true =>
        rw [hs1] at e
        refine iteT ?_
        have := q H2 (s1.trans s2)
        rw [← e] at this
        exact this
      | false =>
        rw [hs1] at e
        refine iteF ?_
        refine ⟨_, rfl, a, _, _, _, rfl, rfl, SqT.of (s2 _ _ (s1 _ _ h)), at2, _, rfl, c, t, x, rfl, h2.tk (tk_same (s1.trans s2)), by omega, by omega, fun H3 s3 => ?_⟩
        have := q H3 ((s1.trans s2).trans s3)
        rw [← e] at this
        exact this
    refine ⟨_, rfl, a, _, _, _, rfl, rfl, SqT.of h, at0, rfl, _, rfl, ?_⟩
    cases l with
    | false => exact itF rfl (iteF (last H (fun _ _ h => h) fun _ _ => rfl))
    | true =>
      refine itT rfl ⟨_, rfl, _, rfl, a, _, _, _, rfl, rfl, SqT.of h, at2, c, t, rfl, h2, (by show scnt t ≤ 31; omega), (by show (30 : Nat) ≤ 100; decide), fun r H1 s1 g1 => ?_⟩
      refine ⟨r, _, rfl, .inl (SqL.of g1), rfl, flat_strs _, ?_⟩
      refine ⟨_, rfl, ?_⟩
      show (fun b H1 => if b = true then _ else _) (inV (.str x) ((nmS t).map V.str)) H1
      rw [inV_str]
      cases hx : (nmS t).contains x with
      | true =>
        refine iteT ?_
        have e : tkS x (.two true s t) = true := by
          show ((true && (nmS t).contains x) || _) = true
          rw [hx]
          rfl
        have := q H1 s1
        rw [e] at this
        exact this
      | false =>
        refine iteF (last H1 s1 fun _ _ => ?_)
        show _ = ((true && (nmS t).contains x) || _)
        rw [hx]
        rfl
theorem all_ltk {f f1 : Addr} {fd d1 : FuncData} (F : Fun K "_law_taken" "_law_taken" s_law_taken f fd) (G_law_names_in : FnOk P w K mg base CX0 31 f1 d1 ["term"] (spLNm 31)) (R_law_names_in : Ref K mg "_law_names_in" f1 d1 ["term"])
    (R_law_taken : Ref K mg "_law_taken" f fd ["term", "x"]) : ∀ n : Nat, FnOk P w K mg base CX0 (n + 31) f fd ["term", "x"] (spLTk n)
  | 0 => no_sp
  | n + 1 => ok_ltk n F G_law_names_in R_law_names_in (all_ltk F G_law_names_in R_law_names_in R_law_taken n) R_law_taken
end
end KB

namespace KB
open PySem L2

/-! ### a term, seen -/
def unT : Tm → ST
  | .mk h n k => match h with
    | .num z => .num z
    | .nam x => .nam x
    | .less => if hn : n = 2 then .two true (unT (k ⟨0, by omega⟩)) (unT (k ⟨1, by omega⟩)) else .num 0
    | _ => if hn : n = 2 then .two false (unT (k ⟨0, by omega⟩)) (unT (k ⟨1, by omega⟩)) else .num 0
theorem un_tm : ∀ s : ST, unT s.tm = s
  | .num _ => rfl
  | .nam _ => rfl
  | .two true a b => by
    show ST.two true (unT a.tm) (unT b.tm) = _
    rw [un_tm a, un_tm b]
  | .two false a b => by
    show ST.two false (unT a.tm) (unT b.tm) = _
    rw [un_tm a, un_tm b]
theorem see_un {H : Hp} {t : Tm} {a : Addr} (h : At H t a) (e : simple t = true) : SAt H (unT t) a ∧ t = (unT t).tm := by
  obtain ⟨s, rfl, h2⟩ := see h e
  rw [un_tm]
  exact ⟨h2, rfl⟩
/-- a post's own part adds the answer up -/
def isAddP (x : Str) : Pt → Bool
  | .give _ t => decide ((nmS (unT t)).count x = 1) && !tkS x (unT t)
  | _ => false
/-! ### the terms within, as they are met -/
def plS : ST → List (List Int × ST)
  | .num z => [([], .num z)]
  | .nam x => [([], .nam x)]
  | .two l a b => ([], .two l a b) :: ((plS a).map (fun e => (((0 : Nat) : Int) :: e.1, e.2)) ++ ((plS b).map (fun e => (((1 : Nat) : Int) :: e.1, e.2)) ++ []))
def kidsS : ST → List ST
  | .two _ a b => [a, b]
  | _ => []
def TrS : Tre ST where
  kids := kidsS
  sz := scnt
  pl := plS
  A := SAt
  tk e h := SAt.tk e h
  szk n := by cases n <;> simp [scnt, kidsS, Nat.add_assoc]
  plk n := by cases n <;> rfl
def preS (s : ST) : List ST := TrS.pre s
theorem preS_two (l : Bool) (a b : ST) : preS (.two l a b) = .two l a b :: (preS a ++ preS b) := by
  show ((plS (.two l a b)).map (·.2)) = _
  show _ :: ((plS a).map _ ++ ((plS b).map _ ++ [])).map _ = _
  rw [List.append_nil, List.map_append, List.map_map, List.map_map]
  rfl
def isNm (x : Str) : ST → Bool
  | .nam y => y == x
  | _ => false
theorem cnt_nm {x : Str} : ∀ s : ST, (preS s).countP (isNm x) = (nmS s).count x
  | .num z => rfl
  | .nam y => by
    show List.countP (isNm x) [.nam y] = List.count x [y]
    rw [List.countP_cons, List.count_cons]
    rfl
  | .two l a b => by
    rw [preS_two, List.countP_cons, List.countP_append, cnt_nm a, cnt_nm b]
    show _ + (if false = true then 1 else 0) = (nmS a ++ nmS b).count x
    rw [List.count_append]
    rfl
theorem any_nm {x : Str} (s : ST) : (preS s).any (isNm x) = (nmS s).contains x := by
  have h := cnt_nm (x := x) s
  by_cases c : x ∈ nmS s
  · have h1 : 0 < (nmS s).count x := List.count_pos_iff.mpr c
    rw [← h] at h1
    obtain ⟨y, hy, e⟩ := List.countP_pos_iff.mp h1
    rw [List.any_eq_true.mpr ⟨y, hy, e⟩, List.contains_iff_mem.mpr c]
  · have h1 : (nmS s).count x = 0 := List.count_eq_zero.mpr c
    rw [← h] at h1
    have h2 := List.countP_eq_zero.mp h1
    have e1 : (preS s).any (isNm x) = false := List.any_eq_false.mpr h2
    rw [e1]
    exact (Bool.eq_false_iff.mpr fun z => c (List.contains_iff_mem.mp z)).symm
/-- what stands behind a minus -/
def behS : ST → List ST
  | .two true _ b => preS b
  | _ => []
def takL (ss : List ST) : List ST := (ss.map behS).flatten
theorem tak_any {x : Str} : ∀ s : ST, (takL (preS s)).any (isNm x) = tkS x s
  | .num _ => rfl
  | .nam _ => rfl
  | .two l a b => by
    have ha := tak_any (x := x) a
    have hb := tak_any (x := x) b
    unfold takL at ha hb ⊢
    rw [preS_two, List.map_cons, List.flatten_cons, List.map_append, List.flatten_append, List.any_append, List.any_append, ha, hb]
    show _ = ((l && (nmS b).contains x) || (tkS x a || tkS x b))
    cases l with
    | true =>
      show ((preS b).any (isNm x) || _) = _
      rw [any_nm]
      rfl
    | false => rfl
/-! ### as data -/
def pdS : ST → PyData
  | .num z => .tuple [.str "number", .int z]
  | .nam x => .tuple [.str "name", .str x]
  | .two l a b => .tuple [.str (hs (hdB l)), pdS a, pdS b]
theorem dp_S {K : PySem.W.Frag} {H : Hp} : ∀ {s : ST} {a : Addr}, SAt H s a → Dp K H (.ref a) (pdS s)
  | .num _, _, h => .tup (SqT.of h) (.cons (.str _) (.cons (.int _) .nil))
  | .nam _, _, h => .tup (SqT.of h) (.cons (.str _) (.cons (.str _) .nil))
  | .two _ _ _, _, ⟨b, c, h, h1, h2⟩ => .tup (SqT.of h) (.cons (.str _) (.cons (dp_S h1) (.cons (dp_S h2) .nil)))
theorem eqv_nm {x : Str} (s : ST) : PyData.eqv (pdS s) (.tuple [.str "name", .str x]) = isNm x s := by
  cases s with
  | num z => rfl
  | nam y =>
    show ((("name" : Str) == ("name" : Str)) && ((y == x) && true)) = (y == x)
    rw [Bool.and_true]
    rfl
  | two l a b => cases l <;> rfl
end KB

namespace KB
open PySem L2

theorem pd_see : ∀ s : ST, pd s.tm = pdS s
  | .num _ => rfl
  | .nam _ => rfl
  | .two true a b => by
    show PyData.tuple [.str (hs .less), pd a.tm, pd b.tm] = PyData.tuple [.str (hs .less), pdS a, pdS b]
    rw [pd_see a, pd_see b]
  | .two false a b => by
    show PyData.tuple [.str (hs .plus), pd a.tm, pd b.tm] = PyData.tuple [.str (hs .plus), pdS a, pdS b]
    rw [pd_see a, pd_see b]
theorem nm_ok : ∀ {s : ST}, okST s → ∀ x ∈ nmS s, isW x = true
  | .num _, _, x, hx => nomatch hx
  | .nam y, h, x, hx => by
    rw [List.mem_singleton.mp hx]
    exact h
  | .two _ a b, h, x, hx => by
    rcases List.mem_append.mp hx with z | z
    · exact nm_ok h.1 x z
    · exact nm_ok h.2 x z
/-- a good term, seen -/
structure GdST (H : Hp) (s : ST) (a : Addr) : Prop where
  at_ : SAt H s a
  ok : okST s
  cn : scnt s ≤ 13
  lay : (pdS s).canLay0 = true
  dp : (pdS s).depth ≤ 10
theorem gd_see {H : Hp} {t : Tm} {a : Addr} (h : At H t a) (g : STm t) : GdST H (unT t) a := by
  obtain ⟨h1, h2⟩ := see_un h g.si
  have ok := g.ok
  have cn := g.cn
  have ly := g.lay
  have dp := g.dep
  rw [h2] at ok cn ly dp
  rw [cnt_see] at cn
  rw [pd_see] at ly dp
  exact ⟨h1, ok_see ok, cn, ly, dp⟩
theorem cnt_strs {x : Str} : ∀ xs : List Str, (xs.map PyData.str).countP (fun z => PyData.eqv z (.str x)) = xs.count x
  | [] => rfl
  | y :: r => by
    rw [List.map_cons, List.countP_cons, List.count_cons, cnt_strs r]
    rfl
section
variable {P : Program} {w : World} {K : PySem.W.Frag} {mg : Str → Option Value} {base : Heap}
/-! ### _law_is_adding -/
def spLIsA : Sp := fun vs H Q _ => ∃ (a : Addr) (j x : Str) (p q : Pt), vs = [.ref a] ∧ PAt H (.post j x p q) a ∧ kP (.post j x p q) ∧ ∀ H', Same H H' → Q (.bl (isAddP x p)) H'
abbrev s_law_is_adding : Stmt := top 38
theorem scLis_adding : FnScope ["part", "then"] ["part"] (defScope s_law_is_adding) := ⟨rfl, rfl, rfl, by decide +kernel, rfl, by decide +kernel, by decide +kernel⟩
theorem ok_lisa {f f1 f2 : Addr} {fd d1 d2 : FuncData} (F : Fun K "_law_is_adding" "_law_is_adding" s_law_is_adding f fd) (G_law_names_in : FnOk P w K mg base CX0 31 f1 d1 ["term"] (spLNm 31)) (R_law_names_in : Ref K mg "_law_names_in" f1 d1 ["term"])
    (G_law_taken : FnOk P w K mg base CX0 51 f2 d2 ["term", "x"] (spLTk 20)) (R_law_taken : Ref K mg "_law_taken" f2 d2 ["term", "x"]) : FnOk P w K mg base CX0 52 f fd ["part"] spLIsA := by
  refine F.ok scLis_adding (fun vs H Q E h => ?_) (fun cdv A outer s H vs Q E hr h => ?_)
  · obtain ⟨a, j, x, p, q, rfl, _⟩ := h
    rfl
  obtain ⟨a, j, x, p, p2, rfl, hA, hk, q⟩ := h
  refine ⟨_, (pss_cons (ps_set (i := 1) scLis_adding.nd rfl (Or.inl rfl) (pe_ix ix_tup (pv 0) pe_int (fun _ _ => rfl)))
    (pss_cons (ps_if (pt_cmpR op_ne (pe_ix ix_tup (pv 1) pe_int (fun _ _ => rfl)) pe_str (nomark _)) (pss_one (ps_ret pe_bl)) pss_nil)
    (pss_one (ps_ret (pe_and (pe_cmpR op_eq (pe_bm PySem.F.plainAttrs_list PySem.F.slot_list_count PySem.F.type_list_count (mt_countD (u65 hr)) (pe_call G_law_names_in (hr.mono (by omega)) rfl R_law_names_in.m R_law_names_in.k R_law_names_in.b .nil pass0 (pa_cons (pe_ix ix_tup (pv 1) pe_int (fun _ _ => rfl)) pa_nil)) (pa_cons (pe_ix ix_tup (pv 0) pe_int (fun _ _ => rfl)) pa_nil)) pe_int (nomark _)) (pe_one (pe_not (pe_call G_law_taken (hr.mono (by omega)) rfl R_law_taken.m R_law_taken.k R_law_taken.b .nil pass0 (pa_cons (pe_ix ix_tup (pv 1) pe_int (fun _ _ => rfl)) (pa_cons (pe_ix ix_tup (pv 0) pe_int (fun _ _ => rfl)) pa_nil)))))))))), ?_⟩
  obtain ⟨c, d, h1, h2, h3⟩ := hA
  refine ⟨_, rfl, a, _, _, _, rfl, rfl, SqT.of h1, at3, ?_⟩
  obtain ⟨r0, hd⟩ := h2.head
  refine ⟨_, rfl, c, _, _, _, rfl, rfl, SqT.of hd, at0, rfl, _, rfl, ?_⟩
  by_cases hg : hsP p = "give"
  · obtain ⟨i, t, rfl⟩ := hsP_give hg
    obtain ⟨b, g1, g2⟩ := h2
    have G := gd_see g2 hk.2.2.1.2
    have hxW : isW x = true := hk.2.1
    refine itF rfl ?_
    refine ⟨_, rfl, c, _, _, _, rfl, rfl, SqT.of g1, at2, b, unT t, rfl, G.at_, (by show scnt (unT t) ≤ 31; have := G.cn; omega), (by show (30 : Nat) ≤ 100; decide), fun r1 H1 s1 e1 => ?_⟩
    refine ⟨.inl ⟨rfl, _, SqL.of e1⟩, ?_⟩
    refine ⟨_, rfl, a, _, _, _, rfl, rfl, SqT.of (s1 _ _ h1), at2, r1, .str x, .str x, (nmS (unT t)).map PyData.str, rfl, rfl, .lst (SqL.of e1) (dp_strs _), .str _, shaped_strs (nm_ok G.ok), shaped_of (isW_ok hxW) (Nat.zero_le _), ?_⟩
    rw [cnt_strs]
    refine ⟨rfl, _, rfl, ?_⟩
    have ei : isAddP x (.give i t) = (decide ((nmS (unT t)).count x = 1) && !tkS x (unT t)) := rfl
    by_cases hc : (nmS (unT t)).count x = 1
    · rw [decide_eq_true hc] at ei
      refine itT (decide_eq_true (by rw [hc]; rfl)) ?_
      refine ⟨_, rfl, c, _, _, _, rfl, rfl, SqT.of (s1 _ _ g1), at2, _, rfl, a, _, _, _, rfl, rfl, SqT.of (s1 _ _ h1), at2, b, unT t, x, rfl, G.at_.tk (tk_same s1), (by show scnt (unT t) ≤ 20; have := G.cn; omega), (by show (19 : Nat) ≤ 30; decide), fun H2 s2 => ⟨_, rfl, ?_⟩⟩
      have := q H2 (s1.trans s2)
      rw [ei] at this
      exact this
    · rw [decide_eq_false hc] at ei
      refine itF (decide_eq_false (fun z => hc (by have := V.int.inj z; omega))) ?_
      have := q H1 s1
      rw [ei] at this
      exact this
  · refine itT (by rw [decide_eq_false (fun z => hg (V.str.inj z))]; rfl) ?_
    have ei : isAddP x p = false := by
      cases p with
      | give i t => exact absurd rfl hg
      | _ => rfl
    have := q H (fun _ _ z => z)
    rw [ei] at this
    exact this
end
end KB

namespace KB
open PySem L2

/-- a walk over a list, whatever is done with each item -/
theorem lcw {K : PySem.W.Frag} {a : Addr} {xs : List V} {H0 : Hp} {Stp : Hp → Prop} {Body : V → Hp → (Hp → Prop) → Prop} (Pv : Nat → Hp → Prop) (h0 : Pv 0 H0) (hl : ∀ i H, i ≤ xs.length → Pv i H → SqL K H a xs)
    (hs : ∀ i x H, xs[i]? = some x → Pv i H → Body x H (Pv (i + 1))) (hd : ∀ H, Pv xs.length H → Stp H) :
    ∃ W : Nat → Nat → Hp → Prop, (∃ m, W 0 m H0) ∧ ∀ i m H, W i m H →
      ((Itl K a).stop i H ∧ Stp H) ∨ ((Itl K a).go i H ∧ ∃ Nx : Hp → Prop, (∀ H', Nx H' → ∃ m', m' < m ∧ W (i + 1) m' H') ∧ ∀ x H', (Itl K a).yld i H x H' → Body x H' Nx) := by
  refine ⟨fun i m H => m = xs.length - i ∧ i ≤ xs.length ∧ Pv i H, ⟨xs.length, by simp, Nat.zero_le _, h0⟩, ?_⟩
  rintro i m H ⟨rfl, hi, p⟩
  have q := hl i H hi p
  by_cases hlt : i < xs.length
  · refine .inr ⟨⟨xs, xs[i], q, by simp [hlt]⟩, Pv (i + 1), fun H' p' => ⟨xs.length - (i + 1), by omega, rfl, hlt, p'⟩, fun x H' y => ?_⟩
    obtain ⟨e, y⟩ := y
    subst e
    exact hs i x _ (y xs q) p
  · have e : i = xs.length := by omega
    subst e
    exact .inl ⟨⟨xs, q, Nat.le_refl _⟩, hd H p⟩
theorem lay_S : ∀ {s : ST}, okST s → (pdS s).canLay0 = true
  | .num _, _ => lay_cons (lay_lit (by decide +kernel)) rfl
  | .nam _, h => lay_cons (lay_lit (by decide +kernel)) (lay_cons (lay_str h) rfl)
  | .two true _ _, h => lay_cons (lay_lit (by decide +kernel)) (lay_cons (lay_S h.1) (lay_cons (lay_S h.2) rfl))
  | .two false _ _, h => lay_cons (lay_lit (by decide +kernel)) (lay_cons (lay_S h.1) (lay_cons (lay_S h.2) rfl))
theorem depth_S : ∀ s : ST, (pdS s).depth ≤ scnt s
  | .num _ => depth_tup (m := 0) (by
      intro d hd
      simp only [List.mem_cons, List.not_mem_nil, or_false] at hd
      rcases hd with z | z <;> subst z <;> exact Nat.le_refl 0)
  | .nam _ => depth_tup (m := 0) (by
      intro d hd
      simp only [List.mem_cons, List.not_mem_nil, or_false] at hd
      rcases hd with z | z <;> subst z <;> exact Nat.le_refl 0)
  | .two l a b => by
      have h1 := depth_S a
      have h2 := depth_S b
      refine Nat.le_trans (depth_tup (m := scnt a + scnt b) ?_) (by show scnt a + scnt b + 1 ≤ 1 + scnt a + scnt b; omega)
      intro d hd
      simp only [List.mem_cons, List.not_mem_nil, or_false] at hd
      rcases hd with z | z | z <;> subst z
      · exact Nat.zero_le _
      · omega
      · omega
theorem pre_sub : ∀ {s : ST}, okST s → ∀ u ∈ preS s, okST u ∧ scnt u ≤ scnt s
  | .num z, h, u, hu => by
    rw [List.mem_singleton.mp hu]
    exact ⟨h, Nat.le_refl _⟩
  | .nam z, h, u, hu => by
    rw [List.mem_singleton.mp hu]
    exact ⟨h, Nat.le_refl _⟩
  | .two l a b, h, u, hu => by
    rw [preS_two] at hu
    have e : scnt (.two l a b) = 1 + scnt a + scnt b := rfl
    rcases List.mem_cons.mp hu with z | z
    · rw [z]
      exact ⟨h, Nat.le_refl _⟩
    · rcases List.mem_append.mp z with z | z
      · have := pre_sub h.1 u z
        exact ⟨this.1, by omega⟩
      · have := pre_sub h.2 u z
        exact ⟨this.1, by omega⟩
theorem tak_sub {s : ST} (h : okST s) : ∀ u ∈ takL (preS s), okST u ∧ scnt u ≤ scnt s := by
  intro u hu
  obtain ⟨l, hl, hu⟩ := List.mem_flatten.mp hu
  obtain ⟨v, hv, rfl⟩ := List.mem_map.mp hl
  obtain ⟨k1, k2⟩ := pre_sub h v hv
  cases v with
  | num _ => cases hu
  | nam _ => cases hu
  | two l a b =>
    cases l with
    | false => cases hu
    | true =>
      have := pre_sub k1.2 u hu
      have e : scnt (.two true a b) = 1 + scnt a + scnt b := rfl
      exact ⟨this.1, by omega⟩
theorem pre_len : ∀ s : ST, (preS s).length = scnt s
  | .num _ => rfl
  | .nam _ => rfl
  | .two l a b => by
    rw [preS_two, List.length_cons, List.length_append, pre_len a, pre_len b]
    show scnt a + scnt b + 1 = 1 + scnt a + scnt b
    omega
theorem beh_len (s : ST) : (behS s).length ≤ scnt s := by
  cases s with
  | num _ => exact Nat.zero_le _
  | nam _ => exact Nat.zero_le _
  | two l a b =>
    cases l with
    | false => exact Nat.zero_le _
    | true =>
      show (preS b).length ≤ 1 + scnt a + scnt b
      rw [pre_len]
      omega
theorem tak_take {ss : List ST} {i : Nat} {u : ST} (h : ss[i]? = some u) : takL (ss.take (i + 1)) = takL (ss.take i) ++ behS u := by
  obtain ⟨hi, he⟩ := List.getElem?_eq_some_iff.mp h
  unfold takL
  rw [List.take_succ_eq_append_getElem hi, List.map_append, List.flatten_append, he]
  simp
theorem tak_len {m : Nat} : ∀ {ss : List ST}, (∀ u ∈ ss, scnt u ≤ m) → (takL ss).length ≤ ss.length * m
  | [], _ => Nat.zero_le _
  | u :: r, h => by
    have h1 := Nat.le_trans (beh_len u) (h u List.mem_cons_self)
    have h2 := tak_len fun v hv => h v (List.mem_cons_of_mem _ hv)
    show (behS u ++ takL r).length ≤ (r.length + 1) * m
    rw [List.length_append, Nat.add_mul, Nat.one_mul]
    omega
theorem dp_all {K : PySem.W.Frag} {H : Hp} : ∀ {ss : List ST} {xs : List V}, All2 (TrS.V H) ss xs → DpAll K H xs (ss.map pdS)
  | [], [], _ => .nil
  | _ :: _, _ :: _, ⟨⟨b, e, h⟩, r⟩ => by
    rw [e]
    exact .cons (dp_S h) (dp_all r)
  | [], _ :: _, h => h.elim
  | _ :: _, [], h => h.elim
theorem shaped_S {ss : List ST} (h : ∀ u ∈ ss, okST u ∧ scnt u ≤ 13) : SeqAt.shaped (.list (ss.map pdS)) = true := by
  refine shaped_of (layAll fun d hd => ?_) (Nat.le_trans (depth_lst (m := 13) fun d hd => ?_) (by decide))
  · obtain ⟨u, hu, rfl⟩ := List.mem_map.mp hd
    exact lay_S (h u hu).1
  · obtain ⟨u, hu, rfl⟩ := List.mem_map.mp hd
    exact Nat.le_trans (depth_S u) (h u hu).2
section
variable {P : Program} {w : World} {K : PySem.W.Frag} {mg : Str → Option Value} {base : Heap}
theorem parts_S {g : Addr} {gd : FuncData} (G : FnOk P w K mg base CX0 1 g gd ["term"] spParts) : FnOk P w K mg base CX0 1 g gd ["term"] (spKids TrS) := G.imp fun vs H Q E h => by
  obtain ⟨n, a, rfl, hA, q⟩ := h
  cases n with
  | num z => exact ⟨a, .num z, [], rfl, ⟨rfl, hA⟩, fun p H' s h => q p H' [] s h trivial⟩
  | nam x => exact ⟨a, .nam x, [], rfl, ⟨rfl, hA⟩, fun p H' s h => q p H' [] s h trivial⟩
  | two l s t =>
    obtain ⟨b, c, h, h1, h2⟩ := hA
    refine ⟨a, hdB l, [.ref b, .ref c], rfl, ?_, fun p H' e hp => q p H' _ e hp ⟨⟨b, rfl, h1.tk (tk_same e)⟩, ⟨c, rfl, h2.tk (tk_same e)⟩, trivial⟩⟩
    cases l
    · exact ⟨rfl, h⟩
    · exact ⟨rfl, h⟩
/-! ### is_added_up -/
def spAdd : Sp := fun vs H Q _ => ∃ (a : Addr) (j x : Str) (p q : Pt), vs = [.ref a] ∧ PAt H (.post j x p q) a ∧ kP (.post j x p q) ∧ ∀ H', Same H H' → Q (.bl (isAddP x p)) H'
abbrev sis_added_up : Stmt := top 20
theorem scis_added_up : FnScope ["post", "head", "j", "x", "then", "asked", "terms", "taken", "term", "one"] ["post"] (defScope sis_added_up) := ⟨rfl, rfl, rfl, by decide +kernel, rfl, by decide +kernel, by decide +kernel⟩
theorem ok_added {f gm gparts_of : Addr} {fd dm gd : FuncData} (F : Fun K "is_added_up" "is_added_up" sis_added_up f fd) (Gmet : FnOk P w K mg base CX0 2 gm dm ["body", "parts"] (spMet TrS gparts_of)) (Rmet : Ref K mg "met" gm dm ["body", "parts"]) (Rparts_of : Ref K mg "parts_of" gparts_of gd ["term"]) :
    FnOk P w K mg base CX0 3 f fd ["post"] spAdd := by
  refine F.ok scis_added_up (fun vs H Q E h => ?_) (fun cdv A outer s H vs Q E hr h => ?_)
  · obtain ⟨a, j, x, p, q, rfl, _⟩ := h
    rfl
  obtain ⟨a, j, x, p, p2, rfl, hA, hk, q⟩ := h
  refine ⟨_, (pss_cons (ps_asg (pv 0) (pg_tup rfl (pgs_cons (pg_name (i := 1) scis_added_up.nd rfl (Or.inl rfl)) (pgs_cons (pg_name (i := 2) scis_added_up.nd rfl (Or.inl rfl)) (pgs_cons (pg_name (i := 3) scis_added_up.nd rfl (Or.inl rfl)) (pgs_cons (pg_name (i := 4) scis_added_up.nd rfl (Or.inl rfl)) (pgs_cons (pg_name (i := 5) scis_added_up.nd rfl (Or.inl rfl)) pgs_nil)))))))
    (pss_cons (ps_if (pt_cmpR op_ne (pe_ix ix_tup (pv 4) pe_int (fun _ _ => rfl)) pe_str (nomark _)) (pss_one (ps_ret pe_bl)) pss_nil)
    (pss_cons (ps_set (i := 6) scis_added_up.nd rfl (Or.inl rfl) (pe_call Gmet (hr.mono (by omega)) rfl Rmet.m Rmet.k Rmet.b .nil pass0 (pa_cons (pe_ix ix_tup (pv 4) pe_int (fun _ _ => rfl)) (pa_cons (pe_glob (v := .ref gparts_of) rfl Rparts_of.m rfl) pa_nil))))
    (pss_cons (ps_setLc2 (i := 7) (own := [("term", 8), ("one", 9)]) (vs1 := [9]) (g := gName 8) (g1 := gName 9) (tt := tTest (tOp rEq (tOp (rIxT K) (tVar 8) (tC (.int 0))) (tC (.str "less")))) (te := tVar 9) (wi1 := iList K (tCall (spMet TrS gparts_of) [] E0 (tCons (tOp (rIxT K) (tVar 8) (tC (.int 2))) (tCons (tC (.ref gparts_of)) tNil)))) (by rfl) scis_added_up.nd rfl rfl (sw_true rfl rfl rfl (by decide +kernel)) (pi_list (pv 6)) (blkOk_by (own := [("term", 8), ("one", 9)]) (N := ["post", "head", "j", "x", "then", "asked", "terms", "taken", "term", "one"]) (sc := defScope sis_added_up) (by decide +kernel)) (by decide) (fun _ _ _ _ _ => (pg_name (i := 8) scis_added_up.nd rfl (Or.inl rfl))) (fun _ _ _ _ _ => (pts_one (pt_cmpR op_eq (pe_ix ix_tup (pv 8) pe_int (fun _ _ => rfl)) pe_str (nomark _))))
      (fun _ _ _ _ _ => pi_list (pe_call Gmet (hr.mono (by omega)) rfl Rmet.m Rmet.k Rmet.b .nil pass0 (pa_cons (pe_ix ix_tup (pv 8) pe_int (fun _ _ => rfl)) (pa_cons (pe_glob (v := .ref gparts_of) rfl Rparts_of.m rfl) pa_nil)))) (fun _ _ _ _ _ => (pg_name (i := 9) scis_added_up.nd rfl (Or.inl rfl))) (fun _ _ _ _ _ => pts_nil) (fun _ _ _ _ _ => (pv 9)))
    (pss_one (ps_ret (pe_and (pe_cmpR op_eq (pe_bm PySem.F.plainAttrs_list PySem.F.slot_list_count PySem.F.type_list_count (mt_countD (u65 hr)) (pv 6) (pa_cons (pe_tup (pa_cons pe_str (pa_cons (pv 3) pa_nil))) pa_nil)) pe_int (nomark _)) (pe_one (pe_cmpR (op_notInD (u65 hr)) (pe_tup (pa_cons pe_str (pa_cons (pv 3) pa_nil))) (pv 7) rfl))))))))), ?_⟩
  obtain ⟨c, d, h1, h2, h3⟩ := hA
  refine ⟨_, rfl, a, _, rfl, SqT.of h1, rfl, _, _, rfl, _, _, rfl, _, _, rfl, _, _, rfl, _, _, rfl, rfl, ?_⟩
  obtain ⟨r0, hd⟩ := h2.head
  refine ⟨_, rfl, c, _, _, _, rfl, rfl, SqT.of hd, at0, rfl, _, rfl, ?_⟩
  by_cases hg : hsP p = "give"
  · obtain ⟨i, t, rfl⟩ := hsP_give hg
    obtain ⟨b, g1, g2⟩ := h2
    have G := gd_see g2 hk.2.2.1.2
    have hxW : isW x = true := hk.2.1
    have ei : isAddP x (.give i t) = (decide ((nmS (unT t)).count x = 1) && !tkS x (unT t)) := rfl
    refine itF rfl ?_
    refine ⟨_, rfl, c, _, _, _, rfl, rfl, SqT.of g1, at2, unT t, b, rfl, G.at_, (by show scnt (unT t) ≤ 1000; have := G.cn; omega), fun L H1 its hL s1 e1 k1 => ?_⟩
    have k1 : All2 (TrS.V H1) (preS (unT t)) its := k1
    have gok := G.ok
    have gcn := G.cn
    clear G g2 g1
    generalize unT t = u at ei k1 gok gcn
    have hil : its.length = scnt u := by rw [← pre_len, k1.len]
    refine ⟨_, rfl, L, rfl, ⟨_, SqL.of e1⟩, fun D hD => ?_⟩
    refine lcw (K := K) (a := L) (xs := its) (fun i H' => Same H1 H' ∧ ∃ acc, H' D = some (.lst acc) ∧ All2 (TrS.V H') (takL ((preS u).take i)) acc) ⟨same_new hD _, [], upd_same, trivial⟩ (fun i H' _ w => SqL.of (w.1 _ _ e1)) ?_ ?_
    · rintro i y H2 hy ⟨s2, acc, hacc, k2⟩
      obtain ⟨v, hv, bv, rfl, av⟩ := k1.get hy
      have hvm := mem_of_get hv
      obtain ⟨vok, vcn⟩ := pre_sub gok v hvm
      have av2 := SAt.tk (tk_same s2) av
      have still : behS v = [] → Same H1 H2 ∧ ∃ acc, H2 D = some (.lst acc) ∧ All2 (TrS.V H2) (takL ((preS u).take (i + 1))) acc := fun e => ⟨s2, acc, hacc, by rw [tak_take hv, e, List.append_nil]; exact k2⟩
      refine ⟨rfl, ?_⟩
      cases v with
      | num z => exact ⟨_, rfl, bv, _, _, _, rfl, rfl, SqT.of av2, at0, rfl, _, rfl, iteF (still rfl)⟩
      | nam z => exact ⟨_, rfl, bv, _, _, _, rfl, rfl, SqT.of av2, at0, rfl, _, rfl, iteF (still rfl)⟩
      | two l va vb =>
        obtain ⟨b1, c1, hv1, hv2, hv3⟩ := av2
        cases l with
        | false => exact ⟨_, rfl, bv, _, _, _, rfl, rfl, SqT.of hv1, at0, rfl, _, rfl, iteF (still rfl)⟩
        | true =>
          refine ⟨_, rfl, bv, _, _, _, rfl, rfl, SqT.of hv1, at0, rfl, _, rfl, iteT ?_⟩
          have vcn2 : 1 + scnt va + scnt vb ≤ scnt u := vcn
          refine ⟨_, rfl, bv, _, _, _, rfl, rfl, SqT.of hv1, at2, vb, c1, rfl, hv3, (by show scnt vb ≤ 1000; omega), fun L2 H3 its2 hL2 s3 e3 k3 => ⟨L2, rfl, ⟨_, SqL.of e3⟩, ?_⟩⟩
          have k3 : All2 (TrS.V H3) (preS vb) its2 := k3
          have hil2 : its2.length = scnt vb := by rw [← pre_len, k3.len]
          have nLD : L2 ≠ D := (ne_of_none hacc hL2).symm
          have many : (takL ((preS u).take i)).length ≤ 169 := by
            have h1 := tak_len (m := 13) (ss := (preS u).take i) fun w hw => Nat.le_trans (pre_sub gok w (List.mem_of_mem_take hw)).2 gcn
            have h2 : ((preS u).take i).length ≤ 13 := by
              rw [List.length_take, pre_len]
              omega
            omega
          refine lcw (K := K) (a := L2) (xs := its2) (fun j H' => Same H1 H' ∧ H' L2 = some (.lst its2) ∧ All2 (TrS.V H') (preS vb) its2 ∧ ∃ acc, H' D = some (.lst acc) ∧ All2 (TrS.V H') (takL ((preS u).take i) ++ (preS vb).take j) acc) ⟨s2.trans s3, e3, k3, acc, s3 _ _ hacc, by rw [List.take_zero, List.append_nil]; exact k2.imp fun _ _ z => z.tk (tk_same s3)⟩ (fun j H' _ w => SqL.of w.2.1) ?_ ?_
          · rintro m y2 H4 hy2 ⟨s4, hL4, k4, acc4, hacc4, ka4⟩
            obtain ⟨v2, hv2', w2⟩ := k4.get hy2
            refine ⟨rfl, ?_⟩
            dsimp only [tYes]
            refine iteT ?_
            have tkp := tk_put (o := .lst (acc4 ++ [y2])) hacc4
            have la := ka4.len
            refine ⟨_, rfl, acc4, hacc4, Nat.lt_of_le_of_lt (m := 1000) (by rw [la, List.length_append, List.length_take, pre_len]; omega) (by decide), same_mut s4 hD, by rw [upd_ne nLD]; exact hL4, k4.imp fun _ _ z => z.tk tkp, _, upd_same, ?_⟩
            obtain ⟨hm, he⟩ := List.getElem?_eq_some_iff.mp hv2'
            rw [List.take_succ_eq_append_getElem hm, he, ← List.append_assoc]
            exact (ka4.imp fun _ _ z => z.tk tkp).app ⟨w2.tk tkp, trivial⟩
          · rintro H4 ⟨s4, _, _, acc4, hacc4, ka4⟩
            rw [hil2, ← pre_len, List.take_length] at ka4
            exact ⟨s4, acc4, hacc4, by rw [tak_take hv]; exact ka4⟩
    · rintro H2 ⟨s2, acc, hacc, k2⟩
      rw [hil, ← pre_len, List.take_length] at k2
      have shp : SeqAt.shaped (.tuple [.str "name", .str x]) = true := shaped_of (lay_cons (lay_lit (by decide +kernel)) (lay_cons (lay_str hxW) rfl)) (Nat.le_trans (depth_S (.nam x)) (by show 1 ≤ 64; decide))
      have e2 := s2 _ _ e1
      have k12 : All2 (TrS.V H2) (preS u) its := k1.imp fun _ _ z => z.tk (tk_same s2)
      refine ⟨_, rfl, .inl ⟨rfl, _, SqL.of e2⟩, ?_⟩
      refine ⟨_, rfl, sz (by show 2 ≤ 100000; decide), fun p5 hp5 => ?_⟩
      have s5 := same_new hp5 (.tup [V.str "name", .str x])
      have dn : ∀ {H' : Hp}, H' p5 = some (.tup [V.str "name", .str x]) → Dp K H' (.ref p5) (.tuple [.str "name", .str x]) := fun h => .tup (SqT.of h) (.cons (.str _) (.cons (.str _) .nil))
      refine ⟨L, .ref p5, .tuple [.str "name", .str x], (preS u).map pdS, rfl, rfl, .lst (SqL.of (s5 _ _ e2)) (dp_all (k12.imp fun _ _ z => z.tk (tk_same s5))), dn upd_same, shaped_S (fun w hw => ⟨(pre_sub gok w hw).1, Nat.le_trans (pre_sub gok w hw).2 gcn⟩), shp, ?_⟩
      have ec : ((preS u).map pdS).countP (fun z => PyData.eqv z (.tuple [.str "name", .str x])) = (nmS u).count x := by
        rw [List.countP_map, ← cnt_nm]
        exact List.countP_congr fun w _ => by
          show PyData.eqv (pdS w) _ = true ↔ _
          rw [eqv_nm]
      rw [ec]
      refine ⟨rfl, _, rfl, ?_⟩
      by_cases hc : (nmS u).count x = 1
      · rw [decide_eq_true hc] at ei
        refine itT (decide_eq_true (by rw [hc]; rfl)) ?_
        refine ⟨_, rfl, sz (by show 2 ≤ 100000; decide), fun p6 hp6 => ?_⟩
        have s6 := same_new hp6 (.tup [V.str "name", .str x])
        refine ⟨_, rfl, .tuple [.str "name", .str x], (takL (preS u)).map pdS, .tup (SqT.of upd_same) (.cons (.str _) (.cons (.str _) .nil)), .lst (SqL.of ((s5.trans s6) _ _ hacc)) (dp_all (k2.imp fun _ _ z => z.tk (tk_same (s5.trans s6)))), shp, shaped_S (fun w hw => ⟨(tak_sub gok w hw).1, Nat.le_trans (tak_sub gok w hw).2 gcn⟩), ?_⟩
        have ea : ((takL (preS u)).map pdS).any (fun z => PyData.eqv z (.tuple [.str "name", .str x])) = tkS x u := by
          rw [List.any_map, ← tak_any]
          congr 1
          funext w
          exact eqv_nm w
        rw [ea]
        have := q _ (((s1.trans s2).trans s5).trans s6)
        rw [ei] at this
        exact this
      · rw [decide_eq_false hc] at ei
        refine itF (decide_eq_false (fun z => hc (by have := V.int.inj z; omega))) ?_
        have := q _ ((s1.trans s2).trans s5)
        rw [ei] at this
        exact this
  · refine itT (by rw [decide_eq_false (fun z => hg (V.str.inj z))]; rfl) ?_
    have ei : isAddP x p = false := by
      cases p with
      | give i t => exact absurd rfl hg
      | _ => rfl
    have := q H (fun _ _ z => z)
    rw [ei] at this
    exact this
end
end KB

namespace KB
open PySem L2 HT

/-- an own class of exceptions, over ValueError, without __init__ -/
structure XcT (K : PySem.W.Frag) (mg : Str → Option Value) (x : Str) (C : Addr) : Prop where
  g : mg x = some (.ref C)
  x : PySem.W.excIn K C [.type "ValueError", .type "Exception", .type "BaseException", .type "object"] "ValueError.__new__" = true
  k : PySem.W.keepIn K (.ref C) = true
  b : PySem.W.subIn K (.ref C) (.type "BaseException") = some true
  t : PySem.W.typeIn K (.ref C) = some (.type "type")
section
variable {P : Program} {w : World} {K : PySem.W.Frag} {mg : Str → Option Value} {base : Heap} {CN : Addr}
/-! ### errand_named in a turned book, any name -/
def spNamT : Sp := fun vs H Q _ => ∃ (p : Addr) (es : List TEr) (us : List V) (f : Str), vs = [.ref p, .str f] ∧ TBkAt H es us p ∧ (∀ i e, es[i]? = some e → e.1 = f → (∀ (j : Nat) e', j < i → es[j]? = some e' → e'.1 ≠ f) → ∀ v, TErV H e v → Q v H) ∧ ((∀ e ∈ es, e.1 ≠ f) → Q .non H)
abbrev serrand_named : Stmt := top 10
theorem scerrand_named : FnScope ["book", "f", "errand"] ["book", "f"] (defScope serrand_named) := ⟨rfl, rfl, rfl, by decide +kernel, rfl, by decide +kernel, by decide +kernel⟩
theorem ok_nam {f : Addr} {fd : FuncData} (F : Fun K "errand_named" "errand_named" serrand_named f fd) : FnOk P w K mg base CX0 1 f fd ["book", "f"] spNamT := by
  refine F.ok scerrand_named (fun vs H Q E h => ?_) (fun cdv A outer s H vs Q E hr h => ?_)
  · obtain ⟨p, es, us, f, rfl, _⟩ := h
    rfl
  obtain ⟨p, es, us, nm, rfl, hB, q1, q2⟩ := h
  refine ⟨_, (pss_cons (ps_for PassesOwn.never rfl (pi_tup (pv 0)) (pg_name (i := 2) scerrand_named.nd rfl (Or.inl rfl)) (pss_one (ps_if (pt_cmpR op_eq (pe_ix ix_tup (pv 2) pe_int (fun _ _ => rfl)) (pv 1) (nomark _)) (pss_one (ps_ret (pv 2))) pss_nil)))
    (pss_one (ps_ret pe_non))), ?_⟩
  refine ⟨_, rfl, p, rfl, ⟨_, SqT.of hB.1⟩, for_tup (xs := us) (fun j σ H' => ∃ o, σ = [some (.ref p), some (.str nm), o] ∧ H' = H ∧ ∀ i e, i < j → es[i]? = some e → e.1 ≠ nm) ⟨_, rfl, rfl, fun i e h => absurd h (Nat.not_lt_zero _)⟩ ?_ ?_ ?_⟩
  · rintro j σ H' _ ⟨o, rfl, rfl, _⟩
    exact SqT.of hB.1
  · rintro j x σ H' hx ⟨o, rfl, rfl, hj⟩
    obtain ⟨e, he, hev⟩ := hB.2.get hx
    obtain ⟨qa, r, b, rfl, g1, g2, g3⟩ := id hev
    refine ⟨_, rfl, qa, _, _, _, rfl, rfl, SqT.of g1, at0, _, rfl, rfl, _, rfl, ?_⟩
    by_cases c : e.1 = nm
    · exact itT (decide_eq_true (congrArg V.str c)) ⟨_, rfl, q1 j e he c (fun i e' hi he' => hj i e' hi he') _ hev⟩
    · refine itF (decide_eq_false fun z => c (V.str.inj z)) ⟨_, rfl, rfl, fun i e' hi he' => ?_⟩
      by_cases z : i = j
      · subst z
        rw [he] at he'
        cases he'
        exact c
      · exact hj i e' (by omega) he'
  · rintro σ H' ⟨o, rfl, rfl, hj⟩
    refine q2 fun e he => ?_
    obtain ⟨i, hi⟩ := List.mem_iff_getElem?.mp he
    refine hj i e ?_ hi
    rw [hB.2.len]
    exact (List.getElem?_eq_some_iff.mp hi).1
/-! ### need_errand -/
def spNeedE (CN : Addr) : Sp := fun vs H Q E => ∃ (p : Addr) (es : List TEr) (us : List V) (f : Str), vs = [.ref p, .str f] ∧ TBkAt H es us p ∧ ((∃ e ∈ es, e.1 = f) → Q .non H) ∧ ((∀ e ∈ es, e.1 ≠ f) → E (.ref CN) none H)
abbrev sneed_errand : Stmt := top 12
theorem scneed_errand : FnScope ["book", "f"] ["book", "f"] (defScope sneed_errand) := ⟨rfl, rfl, rfl, by decide +kernel, rfl, by decide +kernel, by decide +kernel⟩
theorem ok_needE (XNoAsking : XcT K mg "NoAsking" CN) {f f1 : Addr} {fd d1 : FuncData} (F : Fun K "need_errand" "need_errand" sneed_errand f fd)
    (Gerrand_named : FnOk P w K mg base CX0 1 f1 d1 ["book", "f"] spNamT) (Rerrand_named : Ref K mg "errand_named" f1 d1 ["book", "f"]) : FnOk P w K mg base (L2.CX P w) 2 f fd ["book", "f"] (spNeedE CN) := by
  refine F.okX scneed_errand (fun vs H Q E h => ?_) (fun cdv A outer s H vs Q E hr h => ?_)
  · obtain ⟨p, es, us, f, rfl, _⟩ := h
    rfl
  obtain ⟨p, es, us, nm, rfl, hB, q1, q2⟩ := h
  refine ⟨_, (pss_one (ps_if (pt_cmpR op_isN (pe_call Gerrand_named (hr.mono (by omega)) rfl Rerrand_named.m Rerrand_named.k Rerrand_named.b .nil pass0 (pa_cons (pv 0) (pa_cons (pv 1) pa_nil))) pe_non (nomark _)) (pss_one (ps_raise rfl (takes_of rfl rfl rfl rfl) (pmk_own PySem.F.excBase_ValueError XNoAsking.x XNoAsking.g XNoAsking.k (raises_own XNoAsking.b XNoAsking.t) rfl))) pss_nil)), ?_⟩
  refine ⟨_, rfl, _, rfl, p, es, us, nm, rfl, hB, fun i e he hn hj v hv => ?_, fun hno => ?_⟩
  · obtain ⟨qa, r, b, rfl, g1, g2, g3⟩ := hv
    exact ⟨rfl, _, rfl, itF (decide_eq_false (by intro z; cases z)) (q1 ⟨e, mem_of_get he, hn⟩)⟩
  · exact ⟨rfl, _, rfl, itT (decide_eq_true rfl) (q2 hno)⟩
end
end KB

namespace KB
open PySem L2

/-! ### the least place -/
def ltL : List Int → List Int → Bool
  | _, [] => false
  | [], _ :: _ => true
  | a :: r, b :: s => decide (a < b) || (decide (a = b) && ltL r s)
theorem ltL_irr : ∀ xs : List Int, ltL xs xs = false
  | [] => rfl
  | a :: r => by
    unfold ltL
    rw [ltL_irr r]
    simp
theorem ltL_tr : ∀ {xs ys zs : List Int}, ltL xs ys = true → ltL ys zs = true → ltL xs zs = true
  | xs, [], zs, h, _ => by
    cases xs <;> cases h
  | xs, b :: s, [], _, h => by cases h
  | [], b :: s, c :: t, _, _ => rfl
  | a :: r, b :: s, c :: t, h1, h2 => by
    unfold ltL at h1 h2 ⊢
    simp only [Bool.or_eq_true, Bool.and_eq_true, decide_eq_true_eq] at h1 h2 ⊢
    rcases h1 with h1 | ⟨h1, g1⟩
    · rcases h2 with h2 | ⟨h2, g2⟩
      · left
        omega
      · left
        omega
    · rcases h2 with h2 | ⟨h2, g2⟩
      · left
        omega
      · right
        exact ⟨by omega, ltL_tr g1 g2⟩
theorem ltL_cons (k : Int) (xs ys : List Int) : ltL (k :: xs) (k :: ys) = ltL xs ys := by
  show (decide (k < k) || (decide (k = k) && ltL xs ys)) = _
  simp
theorem ltL_lt {k l : Int} (h : k < l) (xs ys : List Int) : ltL (k :: xs) (l :: ys) = true := by
  show (decide (k < l) || _) = true
  rw [decide_eq_true h]
  rfl
/-- d is a least one of these -/
def MinOf (xs : List (List Int)) : Option (List Int) → Prop
  | none => xs = []
  | some m => m ∈ xs ∧ ∀ y ∈ xs, ltL y m = false
theorem MinOf.less {xs : List (List Int)} {m x : List Int} (h : MinOf xs (some m)) (c : ltL x m = true) : MinOf (xs ++ [x]) (some x) := by
  refine ⟨List.mem_append_right _ List.mem_cons_self, fun y hy => ?_⟩
  rcases List.mem_append.mp hy with z | z
  · cases e : ltL y x with
    | false => rfl
    | true =>
      have h1 := ltL_tr e c
      rw [h.2 y z] at h1
      cases h1
  · rw [List.mem_singleton.mp z]
    exact ltL_irr x
theorem MinOf.keep {xs : List (List Int)} {m x : List Int} (h : MinOf xs (some m)) (c : ltL x m = false) : MinOf (xs ++ [x]) (some m) := by
  refine ⟨List.mem_append_left _ h.1, fun y hy => ?_⟩
  rcases List.mem_append.mp hy with z | z
  · exact h.2 y z
  · rw [List.mem_singleton.mp z]
    exact c
theorem MinOf.first {x : List Int} : MinOf ([] ++ [x]) (some x) := ⟨List.mem_cons_self, fun y hy => by
  rw [List.mem_singleton.mp hy]
  exact ltL_irr x⟩
/-! ### the asks that are handed on, as the law meets them and as the program does -/
/-- a post's own part asks f, and isn't added up -/
def badL (f : Str) : Pt → Bool
  | .post _ x p (.ask g _ _) => decide (g = f) && !isAddP x p
  | _ => false
/-- the places of the asks, posts first -/
def badP (f : Str) : Pt → List (List Int)
  | .give _ _ => []
  | .ask _ _ _ => []
  | .tell _ _ p => (badP f p).map ((1 : Int) :: ·)
  | .lett _ _ p => (badP f p).map ((1 : Int) :: ·)
  | .iff _ p q => (badP f p).map ((1 : Int) :: ·) ++ (badP f q).map ((2 : Int) :: ·)
  | .post j x p q => (if badL f (.post j x p q) then [[1]] else []) ++ (badP f p).map ((0 : Int) :: ·)
def orO {α : Type} : Option α → Option α → Option α
  | some a, _ => some a
  | none, b => b
def firstBad (f : Str) : Pt → Option (List Int)
  | .give _ _ => none
  | .ask _ _ _ => none
  | .tell _ _ p => (firstBad f p).map ((1 : Int) :: ·)
  | .lett _ _ p => (firstBad f p).map ((1 : Int) :: ·)
  | .iff _ p q => orO ((firstBad f p).map ((1 : Int) :: ·)) ((firstBad f q).map ((2 : Int) :: ·))
  | .post j x p q => orO ((firstBad f p).map ((0 : Int) :: ·)) (if badL f (.post j x p q) then some [1] else none)
/-- d is the least of these, all others are greater -/
def Least (xs : List (List Int)) : Option (List Int) → Prop
  | none => xs = []
  | some m => m ∈ xs ∧ ∀ y ∈ xs, y = m ∨ ltL m y = true
theorem Least.map {xs : List (List Int)} {d : Option (List Int)} (k : Int) (h : Least xs d) : Least (xs.map (k :: ·)) (d.map (k :: ·)) := by
  cases d with
  | none =>
    have h : xs = [] := h
    rw [h]
    rfl
  | some m =>
    refine ⟨List.mem_map.mpr ⟨m, h.1, rfl⟩, fun y hy => ?_⟩
    obtain ⟨z, hz, rfl⟩ := List.mem_map.mp hy
    rcases h.2 z hz with e | e
    · left
      rw [e]
    · right
      rw [ltL_cons]
      exact e
theorem Least.two {xs ys : List (List Int)} {d e : Option (List Int)} {k l : Int} (hkl : k < l) (h1 : Least xs d) (h2 : Least ys e) : Least (xs.map (k :: ·) ++ ys.map (l :: ·)) (orO (d.map (k :: ·)) (e.map (l :: ·))) := by
  have g1 := h1.map k
  have g2 := h2.map l
  cases d with
  | none =>
    have h1 : xs = [] := h1
    rw [h1]
    exact g2
  | some m =>
    refine ⟨List.mem_append_left _ g1.1, fun y hy => ?_⟩
    rcases List.mem_append.mp hy with z | z
    · exact g1.2 y z
    · obtain ⟨v, _, rfl⟩ := List.mem_map.mp z
      exact .inr (ltL_lt hkl _ _)
theorem Least.swap {xs ys : List (List Int)} {d : Option (List Int)} (h : Least (xs ++ ys) d) : Least (ys ++ xs) d := by
  cases d with
  | none =>
    have h : xs ++ ys = [] := h
    obtain ⟨e1, e2⟩ := List.append_eq_nil_iff.mp h
    rw [e1, e2]
    rfl
  | some m =>
    refine ⟨?_, fun y hy => h.2 y ?_⟩
    · rcases List.mem_append.mp h.1 with z | z
      · exact List.mem_append_right _ z
      · exact List.mem_append_left _ z
    · rcases List.mem_append.mp hy with z | z
      · exact List.mem_append_right _ z
      · exact List.mem_append_left _ z
theorem least_bad {f : Str} : ∀ p : Pt, Least (badP f p) (firstBad f p)
  | .give _ _ => rfl
  | .ask _ _ _ => rfl
  | .tell _ _ p => (least_bad p).map 1
  | .lett _ _ p => (least_bad p).map 1
  | .iff _ p q => Least.two (by decide) (least_bad p) (least_bad q)
  | .post j x p q => by
    show Least ((if badL f (.post j x p q) = true then [[1]] else []) ++ (badP f p).map ((0 : Int) :: ·)) (orO ((firstBad f p).map ((0 : Int) :: ·)) (if badL f (.post j x p q) = true then some [1] else none))
    refine Least.swap ?_
    cases badL f (.post j x p q) with
    | true => exact Least.two (ys := [[]]) (e := some []) (by decide) (least_bad p) ⟨List.mem_cons_self, fun y hy => .inl (List.mem_singleton.mp hy)⟩
    | false => exact Least.two (l := 1) (ys := []) (e := none) (by decide) (least_bad p) rfl
/-- what the law comes to is what the program is to say -/
theorem min_is {xs : List (List Int)} {d e : Option (List Int)} (h1 : MinOf xs d) (h2 : Least xs e) : d = e := by
  cases d with
  | none =>
    cases e with
    | none => rfl
    | some m =>
      have h1 : xs = [] := h1
      have := h2.1
      rw [h1] at this
      cases this
  | some a =>
    cases e with
    | none =>
      have h2 : xs = [] := h2
      have := h1.1
      rw [h2] at this
      cases this
    | some m =>
      rcases h2.2 a h1.1 with z | z
      · rw [z]
      · have := h1.2 m h2.1
        rw [z] at this
        cases this
end KB

namespace KB
open PySem L2

/-! ### the law's own places -/
theorem badP_all {f : Str} : ∀ {p : Pt}, okL p → (allP p).filterMap (fun e => if badL f e.2 then some (e.1 ++ [1]) else none) = badP f p
  | .give _ _, _ => rfl
  | .ask _ _ _, _ => rfl
  | .tell x t p, h => by
    have ih := badP_all (f := f) h.2.2
    show List.filterMap _ (_ :: ((allP p).map (fun e => ((1 : Int) :: e.1, e.2)) ++ [])) = (badP f p).map ((1 : Int) :: ·)
    rw [List.append_nil, ← ih, List.map_filterMap, List.filterMap_cons, List.filterMap_map]
    show List.filterMap _ (allP p) = _
    congr 1
    funext e
    show (if badL f e.2 = true then some ((1 : Int) :: e.1 ++ [1]) else none) = Option.map _ (if badL f e.2 = true then some (e.1 ++ [1]) else none)
    cases badL f e.2 <;> rfl
  | .lett x t p, h => by
    have ih := badP_all (f := f) h.2.2
    show List.filterMap _ (_ :: ((allP p).map (fun e => ((1 : Int) :: e.1, e.2)) ++ [])) = (badP f p).map ((1 : Int) :: ·)
    rw [List.append_nil, ← ih, List.map_filterMap, List.filterMap_cons, List.filterMap_map]
    show List.filterMap _ (allP p) = _
    congr 1
    funext e
    show (if badL f e.2 = true then some ((1 : Int) :: e.1 ++ [1]) else none) = Option.map _ (if badL f e.2 = true then some (e.1 ++ [1]) else none)
    cases badL f e.2 <;> rfl
  | .iff t p q, h => by
    have ih1 := badP_all (f := f) h.2.1
    have ih2 := badP_all (f := f) h.2.2
    show List.filterMap _ (_ :: ((allP p).map (fun e => ((1 : Int) :: e.1, e.2)) ++ ((allP q).map (fun e => ((2 : Int) :: e.1, e.2)) ++ []))) = (badP f p).map ((1 : Int) :: ·) ++ (badP f q).map ((2 : Int) :: ·)
    rw [List.append_nil, ← ih1, ← ih2, List.map_filterMap, List.map_filterMap, List.filterMap_cons, List.filterMap_append, List.filterMap_map, List.filterMap_map]
    show List.filterMap _ (allP p) ++ List.filterMap _ (allP q) = _
    congr 1
    · congr 1
      funext e
      show (if badL f e.2 = true then some ((1 : Int) :: e.1 ++ [1]) else none) = Option.map _ (if badL f e.2 = true then some (e.1 ++ [1]) else none)
      cases badL f e.2 <;> rfl
    · congr 1
      funext e
      show (if badL f e.2 = true then some ((2 : Int) :: e.1 ++ [1]) else none) = Option.map _ (if badL f e.2 = true then some (e.1 ++ [1]) else none)
      cases badL f e.2 <;> rfl
  | .post j x p q, h => by
    have ih := badP_all (f := f) h.2.2.1
    have hq := h.2.2.2
    cases q with
    | ask g ts i =>
      show List.filterMap _ (_ :: ((allP p).map (fun e => ((0 : Int) :: e.1, e.2)) ++ ([((1 : Int) :: [], Pt.ask g ts i)] ++ []))) = (if badL f (.post j x p (.ask g ts i)) = true then [[1]] else []) ++ (badP f p).map ((0 : Int) :: ·)
      rw [List.append_nil, ← ih, List.map_filterMap, List.filterMap_cons, List.filterMap_append, List.filterMap_map]
      have e0 : List.filterMap (fun e : List Int × Pt => if badL f e.2 = true then some (e.1 ++ [1]) else none) [((1 : Int) :: [], Pt.ask g ts i)] = [] := rfl
      rw [e0, List.append_nil]
      have e1 : List.filterMap ((fun e : List Int × Pt => if badL f e.2 = true then some (e.1 ++ [1]) else none) ∘ fun e => ((0 : Int) :: e.1, e.2)) (allP p) = List.filterMap (fun x => Option.map ((0 : Int) :: ·) (if badL f x.2 = true then some (x.1 ++ [1]) else none)) (allP p) := by
        congr 1
        funext e
        show (if badL f e.2 = true then some ((0 : Int) :: e.1 ++ [1]) else none) = Option.map _ (if badL f e.2 = true then some (e.1 ++ [1]) else none)
        cases badL f e.2 <;> rfl
      rw [e1]
      dsimp only
      cases badL f (Pt.post j x p (Pt.ask g ts i)) <;> rfl
    | _ => exact hq.elim
/-! ### the program's own places, each ask that is handed on with its post -/
abbrev En := List Int × Nd × Option (Str × Str × Pt)
def nonO (l : List (List Int × Nd)) : List En := l.map fun e => (e.1, e.2, none)
def shE (k : Nat) (e : En) : En := ((k : Int) :: e.1, e.2)
def shQ (k : Nat) (e : List Int × Nd) : List Int × Nd := ((k : Int) :: e.1, e.2)
def plA : Pt → List En
  | .give j t => ([], .inl (.give j t), none) :: nonO ((plT t).map (shQ 0))
  | .ask f ts j => ([], .inl (.ask f ts j), none) :: nonO (plTs 0 ts)
  | .tell x t p => ([], .inl (.tell x t p), none) :: (nonO ((plT t).map (shQ 0)) ++ (plA p).map (shE 1))
  | .lett x t p => ([], .inl (.lett x t p), none) :: (nonO ((plT t).map (shQ 0)) ++ (plA p).map (shE 1))
  | .iff t p q => ([], .inl (.iff t p q), none) :: (nonO ((plT t).map (shQ 0)) ++ ((plA p).map (shE 1) ++ (plA q).map (shE 2)))
  | .post j x p (.ask g ts i) => ([], .inl (.post j x p (.ask g ts i)), none) :: ((plA p).map (shE 0) ++ (([1], .inl (.ask g ts i), some (g, x, p)) :: nonO ((plTs 0 ts).map (shQ 1))))
  | .post j x p q => ([], .inl (.post j x p q), none) :: ((plA p).map (shE 0) ++ nonO ((plQ q).map (shQ 1)))
def erA (e : En) : List Int × Nd := (e.1, e.2.1)
theorem er_non (l : List (List Int × Nd)) : (nonO l).map erA = l := by
  unfold nonO
  rw [List.map_map]
  exact List.map_id' l
theorem er_sh (k : Nat) (l : List En) : (l.map (shE k)).map erA = (l.map erA).map (shQ k) := by
  rw [List.map_map, List.map_map]
  rfl
theorem er_all : ∀ p : Pt, (plA p).map erA = plQ p
  | .give j t => by
    show _ :: (nonO _).map erA = _ :: (_ ++ [])
    rw [er_non, List.append_nil]
    rfl
  | .ask f ts j => by
    show _ :: (nonO _).map erA = _
    rw [er_non]
    rfl
  | .tell x t p => by
    show _ :: List.map erA (_ ++ _) = _ :: (_ ++ (_ ++ []))
    rw [List.map_append, er_non, er_sh, er_all p, List.append_nil]
    rfl
  | .lett x t p => by
    show _ :: List.map erA (_ ++ _) = _ :: (_ ++ (_ ++ []))
    rw [List.map_append, er_non, er_sh, er_all p, List.append_nil]
    rfl
  | .iff t p q => by
    show _ :: List.map erA (_ ++ (_ ++ _)) = _ :: (_ ++ (_ ++ (_ ++ [])))
    rw [List.map_append, List.map_append, er_non, er_sh, er_sh, er_all p, er_all q, List.append_nil]
    rfl
  | .post j x p q => by
    cases q with
    | ask g ts i =>
      show _ :: List.map erA (_ ++ (_ :: nonO _)) = _ :: (_ ++ (_ ++ []))
      rw [List.map_append, List.map_cons, er_non, er_sh, er_all p, List.append_nil]
      rfl
    | _ =>
      show _ :: List.map erA (_ ++ nonO _) = _ :: (_ ++ (_ ++ []))
      rw [List.map_append, er_non, er_sh, er_all p, List.append_nil]
      rfl
/-- what the program comes to at an entry -/
def badE (f : Str) (e : En) : Option (List Int) := match e.2.2 with
  | some (g, x, p) => if decide (g = f) && !isAddP x p then some e.1 else none
  | none => none
theorem find_non {f : Str} (l : List (List Int × Nd)) : (nonO l).findSome? (badE f) = none := by
  unfold nonO
  rw [List.findSome?_map, List.findSome?_eq_none_iff]
  intro x _
  rfl
theorem find_sh {f : Str} (k : Nat) : ∀ l : List En, (l.map (shE k)).findSome? (badE f) = (l.findSome? (badE f)).map ((k : Int) :: ·)
  | [] => rfl
  | e :: r => by
    have ih := find_sh (f := f) k r
    rw [List.map_cons, List.findSome?_cons, List.findSome?_cons, ih]
    have e1 : badE f (shE k e) = (badE f e).map ((k : Int) :: ·) := by
      obtain ⟨a, b, c⟩ := e
      cases c with
      | none => rfl
      | some z =>
        obtain ⟨g, x, p⟩ := z
        show (if (decide (g = f) && !isAddP x p) = true then some ((k : Int) :: a) else none) = Option.map _ (if (decide (g = f) && !isAddP x p) = true then some a else none)
        cases (decide (g = f) && !isAddP x p) <;> rfl
    rw [e1]
    cases badE f e <;> rfl
theorem or_is {α : Type} (a b : Option α) : a.or b = orO a b := by cases a <;> rfl
theorem find_first {f : Str} : ∀ {p : Pt}, okL p → (plA p).findSome? (badE f) = firstBad f p
  | .give _ _, _ => find_non _
  | .ask _ _ _, _ => find_non _
  | .tell x t p, h => by
    show (nonO _ ++ (plA p).map (shE 1)).findSome? (badE f) = _
    rw [List.findSome?_append, find_non, find_sh, find_first h.2.2]
    rfl
  | .lett x t p, h => by
    show (nonO _ ++ (plA p).map (shE 1)).findSome? (badE f) = _
    rw [List.findSome?_append, find_non, find_sh, find_first h.2.2]
    rfl
  | .iff t p q, h => by
    show (nonO _ ++ ((plA p).map (shE 1) ++ (plA q).map (shE 2))).findSome? (badE f) = _
    rw [List.findSome?_append, List.findSome?_append, find_non, find_sh, find_sh, find_first h.2.1, find_first h.2.2, or_is, or_is]
    rfl
  | .post j x p q, h => by
    have hq := h.2.2.2
    cases q with
    | ask g ts i =>
      show ((plA p).map (shE 0) ++ (_ :: nonO _)).findSome? (badE f) = _
      rw [List.findSome?_append, List.findSome?_cons, find_non, find_sh, find_first h.2.2.1, or_is]
      have e9 : badE f ([1], Sum.inl (Pt.ask g ts i), some (g, x, p)) = if (decide (g = f) && !isAddP x p) = true then some [1] else none := rfl
      have e8 : firstBad f (.post j x p (.ask g ts i)) = orO ((firstBad f p).map ((0 : Int) :: ·)) (if (decide (g = f) && !isAddP x p) = true then some [1] else none) := rfl
      rw [e9, e8]
      cases (decide (g = f) && !isAddP x p) <;> rfl
    | _ => exact hq.elim
end KB

namespace KB
open PySem L2

/-! ### no place twice -/
theorem plL_head {N : Type} {pl : N → List (List Int × N)} : ∀ {ns : List N} {j : Nat} {e : List Int × N}, e ∈ plL pl j ns → ∃ (k : Nat) (r : List Int), j ≤ k ∧ e.1 = (k : Int) :: r
  | [], _, _, h => nomatch h
  | n :: ns, j, e, h => by
    rcases List.mem_append.mp h with z | z
    · obtain ⟨u, _, rfl⟩ := List.mem_map.mp z
      exact ⟨j, u.1, Nat.le_refl _, rfl⟩
    · obtain ⟨k, r, h1, h2⟩ := plL_head z
      exact ⟨k, r, by omega, h2⟩
theorem plL_nd {N : Type} {pl : N → List (List Int × N)} : ∀ {ns : List N} {j : Nat}, (∀ n ∈ ns, ((pl n).map (·.1)).Nodup) → ((plL pl j ns).map (·.1)).Nodup
  | [], _, _ => List.nodup_nil
  | n :: ns, j, h => by
    show (((pl n).map (fun e => ((j : Int) :: e.1, e.2)) ++ plL pl (j + 1) ns).map (·.1)).Nodup
    rw [List.map_append, List.nodup_append]
    refine ⟨?_, plL_nd fun m hm => h m (List.mem_cons_of_mem _ hm), ?_⟩
    · rw [List.map_map]
      have e : ((fun x : List Int × N => x.1) ∘ fun e : List Int × N => ((j : Int) :: e.1, e.2)) = (((j : Int) :: ·) ∘ (·.1)) := rfl
      rw [e, ← List.map_map]
      exact List.Pairwise.map _ (fun a b hab z => hab (List.cons.inj z).2) (h n List.mem_cons_self)
    · intro a ha b hb
      obtain ⟨u, hu, rfl⟩ := List.mem_map.mp ha
      obtain ⟨v, _, rfl⟩ := List.mem_map.mp hu
      obtain ⟨u2, hu2, rfl⟩ := List.mem_map.mp hb
      obtain ⟨k, r, h1, h2⟩ := plL_head hu2
      rw [h2]
      intro z
      have := (List.cons.inj z).1
      omega
theorem sz_mem {N : Type} (R : Tre N) : ∀ {ns : List N} {n : N}, n ∈ ns → R.sz n ≤ (ns.map R.sz).sum
  | m :: r, n, h => by
    rcases List.mem_cons.mp h with z | z
    · rw [z]
      show R.sz m ≤ R.sz m + (r.map R.sz).sum
      omega
    · have := sz_mem R z
      show R.sz n ≤ R.sz m + (r.map R.sz).sum
      omega
theorem pl_nd {N : Type} (R : Tre N) : ∀ (m : Nat) (n : N), R.sz n ≤ m → ((R.pl n).map (·.1)).Nodup
  | 0, n, h => by
    have := R.szk n
    omega
  | m + 1, n, h => by
    rw [R.plk, List.map_cons, List.nodup_cons]
    have hs := R.szk n
    refine ⟨fun z => ?_, plL_nd fun k hk => pl_nd R m k (by have := sz_mem R hk; omega)⟩
    obtain ⟨u, hu, e⟩ := List.mem_map.mp z
    obtain ⟨k, r, _, h2⟩ := plL_head hu
    rw [h2] at e
    cases e
/-! ### what is known of an entry -/
def Good (L : List (List Int × Nd)) (e : En) : Prop := match e.2.2 with
  | some (g, x, p) => ∃ (dl : List Int) (j : Str) (ts : List Tm), e.1 = dl ++ [1] ∧ e.2.1 = .inl (.ask g ts j) ∧ j ≠ "home" ∧ (dl, .inl (.post j x p (.ask g ts j))) ∈ L
  | none => ∀ (g : Str) (ts : List Tm) (j : Str), e.2.1 = .inl (.ask g ts j) → j = "home"
theorem plTs_inr : ∀ {ts : List Tm} {j : Nat} {e : List Int × Nd}, e ∈ plTs j ts → (∀ t ∈ ts, ∀ e ∈ plT t, ∃ u, e.2 = Sum.inr u) → ∃ u, e.2 = .inr u
  | [], _, _, h, _ => nomatch h
  | t :: ts, j, e, h, g => by
    rcases List.mem_append.mp h with z | z
    · obtain ⟨v, hv, rfl⟩ := List.mem_map.mp z
      exact g t List.mem_cons_self v hv
    · exact plTs_inr z fun t ht => g t (List.mem_cons_of_mem _ ht)
theorem plT_inr : ∀ {t : Tm}, ∀ e ∈ plT t, ∃ u, e.2 = Sum.inr u := by
  intro t
  induction t with
  | mk h n k ih =>
    intro e he
    rw [plT_mk] at he
    rcases List.mem_cons.mp he with z | z
    · exact ⟨_, by rw [z]⟩
    · refine plTs_inr z fun t ht => ?_
      obtain ⟨i, rfl⟩ := List.mem_ofFn.mp ht
      exact ih i
theorem good_non {L l : List (List Int × Nd)} (h : ∀ e ∈ l, ∃ u, e.2 = Sum.inr u) : ∀ e ∈ nonO l, Good L e := by
  intro e he
  obtain ⟨v, hv, rfl⟩ := List.mem_map.mp he
  intro g ts j z
  obtain ⟨u, hu⟩ := h v hv
  have z : v.2 = .inl (.ask g ts j) := z
  rw [hu] at z
  cases z
theorem good_sh {L M : List (List Int × Nd)} {k : Nat} {l : List En} (h : ∀ e ∈ l, Good M e) (hm : ∀ e ∈ M, shQ k e ∈ L) : ∀ e ∈ l.map (shE k), Good L e := by
  intro e he
  obtain ⟨v, hv, rfl⟩ := List.mem_map.mp he
  have g := h v hv
  obtain ⟨a, n, c⟩ := v
  cases c with
  | none => exact g
  | some z =>
    obtain ⟨f, x, p⟩ := z
    obtain ⟨dl, j, ts, e1, e2, e3, e4⟩ := g
    refine ⟨(k : Int) :: dl, j, ts, ?_, e2, e3, hm _ e4⟩
    have e1 : a = dl ++ [1] := e1
    show (k : Int) :: a = _
    rw [e1]
    rfl
theorem sh_inr {l : List (List Int × Nd)} {k : Nat} (h : ∀ e ∈ l, ∃ u, e.2 = Sum.inr u) : ∀ e ∈ l.map (shQ k), ∃ u, e.2 = Sum.inr u := by
  intro e he
  obtain ⟨v, hv, rfl⟩ := List.mem_map.mp he
  exact h v hv
theorem good_top {L : List (List Int × Nd)} {p : Pt} (h : ∀ g ts j, p = .ask g ts j → j = "home") : Good L ([], .inl p, none) := fun g ts j z => h g ts j (Sum.inl.inj z)
theorem home_no {j : Str} (h : isW j = true) : j ≠ "home" := by
  rintro rfl
  revert h
  decide +kernel
theorem good_all : ∀ {p : Pt}, okL p → ∀ e ∈ plA p, Good (plQ p) e
  | .give j t, h, e, he => by
    rcases List.mem_cons.mp he with z | z
    · rw [z]
      exact good_top (fun _ _ _ z => nomatch z)
    · exact good_non (sh_inr plT_inr) e z
  | .ask f ts j, h, e, he => by
    rcases List.mem_cons.mp he with z | z
    · rw [z]
      exact good_top (fun g us i z => by
        cases z
        exact h.1)
    · exact good_non (fun e he => plTs_inr he fun t _ => plT_inr) e z
  | .tell x t p, h, e, he => by
    rcases List.mem_cons.mp he with z | z
    · rw [z]
      exact good_top (fun _ _ _ z => nomatch z)
    · rcases List.mem_append.mp z with z | z
      · exact good_non (sh_inr plT_inr) e z
      · exact good_sh (good_all h.2.2) (fun v hv => List.mem_cons_of_mem _ (List.mem_append_right _ (List.mem_append_left _ (List.mem_map.mpr ⟨v, hv, rfl⟩)))) e z
  | .lett x t p, h, e, he => by
    rcases List.mem_cons.mp he with z | z
    · rw [z]
      exact good_top (fun _ _ _ z => nomatch z)
    · rcases List.mem_append.mp z with z | z
      · exact good_non (sh_inr plT_inr) e z
      · exact good_sh (good_all h.2.2) (fun v hv => List.mem_cons_of_mem _ (List.mem_append_right _ (List.mem_append_left _ (List.mem_map.mpr ⟨v, hv, rfl⟩)))) e z
  | .iff t p q, h, e, he => by
    rcases List.mem_cons.mp he with z | z
    · rw [z]
      exact good_top (fun _ _ _ z => nomatch z)
    · rcases List.mem_append.mp z with z | z
      · exact good_non (sh_inr plT_inr) e z
      · rcases List.mem_append.mp z with z | z
        · exact good_sh (good_all h.2.1) (fun v hv => List.mem_cons_of_mem _ (List.mem_append_right _ (List.mem_append_left _ (List.mem_map.mpr ⟨v, hv, rfl⟩)))) e z
        · exact good_sh (good_all h.2.2) (fun v hv => List.mem_cons_of_mem _ (List.mem_append_right _ (List.mem_append_right _ (List.mem_append_left _ (List.mem_map.mpr ⟨v, hv, rfl⟩))))) e z
  | .post j x p q, h, e, he => by
    have hq := h.2.2.2
    cases q with
    | ask g ts i =>
      rcases List.mem_cons.mp he with z | z
      · rw [z]
        exact good_top (fun _ _ _ z => nomatch z)
      · rcases List.mem_append.mp z with z | z
        · exact good_sh (good_all h.2.2.1) (fun v hv => List.mem_cons_of_mem _ (List.mem_append_left _ (List.mem_map.mpr ⟨v, hv, rfl⟩))) e z
        · rcases List.mem_cons.mp z with z | z
          · rw [z]
            have hi : i = j := hq.1
            subst hi
            exact ⟨[], i, ts, rfl, rfl, home_no h.1, List.mem_cons_self⟩
          · exact good_non (sh_inr fun e he => plTs_inr he fun t _ => plT_inr) e z
    | _ => exact hq.elim
theorem LTm.st {t : Tm} (h : LTm t) : STm t := ⟨h.ok, h.si, h.cn, h.ht⟩
theorem ok_home : PySem.PyData.strOk "home" = true := by decide +kernel
theorem askL_k {j : Str} {q : Pt} (hj : PySem.PyData.strOk j = true) (h : askL j q) : kP q := by
  cases q with
  | ask f ts i => exact ⟨by rw [h.1]; exact hj, h.2.1, h.2.2.1, fun t ht => (h.2.2.2 t ht).st⟩
  | _ => exact h.elim
theorem okL_k : ∀ {p : Pt}, okL p → kP p
  | .give j t, h => ⟨by rw [h.1]; exact ok_home, h.2.st⟩
  | .ask f ts i, h => askL_k ok_home h
  | .tell x t p, h => ⟨h.1, h.2.1.st, okL_k h.2.2⟩
  | .lett x t p, h => ⟨h.1, h.2.1.st, okL_k h.2.2⟩
  | .iff t p q, h => ⟨h.1.st, okL_k h.2.1, okL_k h.2.2⟩
  | .post j x p q, h => ⟨h.1, h.2.1, okL_k h.2.2.1, askL_k (isW_ok h.1) h.2.2.2⟩
end KB

namespace KB
open PySem PySem.Spec PyProof.Rows L2

/-! ### for k, v in d.items(), the keys tuples -/
section
variable {X : Cx} {pins : List (Addr × Obj)} {σ : L2.St} {H : Hp} {s : Shared} {d : Addr} {o : Obj}
theorem frz_tup {kvs : List (List L2.Key × L2.V)} (I : Inv X pins σ H s) (h : H d = some (.frz o (.dT kvs))) :
    (d == sysModules) = false ∧ s.heap.get? d = some o ∧ o.ExactDict ∧ ∃ (es : Array DictEntry) (ep : Nat), o.data = .dict es ep ∧ es.size = kvs.length ∧
      ∀ (i : Nat) (k : List L2.Key) (v : L2.V), kvs[i]? = some (k, v) → ∃ (en : DictEntry) (q : Addr), es[i]? = some en ∧ en.key = .ref q ∧ H q = some (.tup (k.map kV)) ∧ RelV v en.val := by
  obtain ⟨hd, z, hs, xs, pr, o', es, ep, ho, hx, hdt, he, _⟩ := I.hok d _ h
  rw [hd] at ho
  cases ho
  refine ⟨hs, hd, hx, es, ep, hdt, ?_, fun i k v e => ?_⟩
  · have l1 : es.size = xs.length := size_of_entries he
    have l2 : kvs.length = xs.length := Paired.length pr
    omega
  · obtain ⟨b, hb, e1, e2, e3⟩ := paired_get pr e
    have g := entry_at he i
    rw [hb] at g
    exact ⟨_, b.2.1, g, rfl, e2, e3⟩
end
/-- the pairs of the locked dict at d, each a new tuple: the key's own tuple, the value -/
def ItT (d : Addr) (o : Obj) (kvs : List (List L2.Key × L2.V)) : It :=
  ⟨fun i H => H d = some (.frz o (.dT kvs)) ∧ i < kvs.length, fun i H x H' => ∃ T k v q, kvs[i]? = some (k, v) ∧ H q = some (.tup (k.map kV)) ∧ x = .ref T ∧ H T = none ∧ H' = upd H T (.tup [.ref q, v]), fun i H => H d = some (.frz o (.dT kvs)) ∧ kvs.length ≤ i⟩
section
variable {P : Program} {w : World} {K : PySem.W.Frag} {d : Addr} {o : Obj} {es : Array DictEntry} {ep : Nat}
theorem turn_tup {kvs : List (List L2.Key × L2.V)} {elts : List Expr} {kk : Nat} {tpos : Pos} (it : Addr) (hod : o.data = .dict es ep) :
    Turn P w K (.Tuple elts kk tpos) (ItT d o kvs) [it] it (fun i h => ∃ ok ov, IsItemIter h it d i kvs.length ep ok ov) where
  mem := by simp
  obj := fun i h st b hb => by
    have e : b = it := by simpa using hb
    subst e
    obtain ⟨ok, ov, e⟩ := st
    exact ⟨_, e, fun v z => nomatch z⟩
  keep := fun i h h' st k => let ⟨ok, ov, e⟩ := st; ⟨ok, ov, k it (by simp) _ e⟩
  item := by
    intro X hP hw hK hc i pins s σ H E I hf st hg
    subst hP hw hK
    obtain ⟨hd, hi⟩ := hg
    obtain ⟨hs, hgd, hx, es', ep', hdt, hsz, ent⟩ := frz_tup I hd
    obtain ⟨rfl, rfl⟩ := dict_ep hod hdt
    obtain ⟨⟨k, v⟩, hkv⟩ : ∃ p, kvs[i]? = some p := ⟨kvs[i], List.getElem?_eq_getElem hi⟩
    obtain ⟨en, q, hen, hkey, hq, rv⟩ := ent i k v hkv
    obtain ⟨ok, ov, he⟩ := st
    rw [← hsz] at he
    have hlt : it < s.heap.objs.size := Heap.lt_size he
    have hie : i < es'.size := by omega
    have een : es'[i] = en := by
      rw [Array.getElem?_eq_getElem hie] at hen
      exact Option.some.inj hen
    refine DT.nextI he ⟨o, hgd, hx, hdt⟩ hie fun h' ho hT hz hk => ?_
    rw [een, hkey] at ho hT
    refine ⟨_, rfl, wpAny_letOwnedTupleGo_items (s := { s with heap := h' }) ho fun h'' he' sb => ?_⟩
    have hT2 : h''.get? s.heap.objs.size = some { cls := .type "tuple", data := .seq #[.ref q, en.val] } := (sb.2 _ (Nat.ne_of_gt hlt)).trans hT
    have new : ObjOk X.prog X.w (upd H s.heap.objs.size (.tup [.ref q, v])) h'' s.heap.objs.size (.tup [.ref q, v]) :=
      ⟨by show 2 ≤ sizeLine; decide, [.ref q, en.val], .cons rfl (.cons rv .nil), ⟨_, hT2, rfl, _, rfl⟩⟩
    have I1 : Inv X pins σ (upd H s.heap.objs.size (.tup [.ref q, v])) { s with heap := h'' } :=
      I.turnedNew (t' := s.toks) (ch := [it]) (fun b ob hb e => (sb.2 b (by simpa using hb)).trans (hk b ob (by simpa using hb) e)) hf (Nat.le_refl _) new
    refine ⟨.ref s.heap.objs.size, _, I1, rfl, ⟨_, k, v, q, hkv, hq, rfl, I.hok.fresh (Nat.le_refl _), rfl⟩, ⟨.ref q, en.val, ?_⟩, fun b hb => ?_⟩
    · rw [← hsz]; exact he'
    · have e : b = it := by simpa using hb
      rw [e, upd_ne (Nat.ne_of_lt hlt)]
      exact (hf it (by simp)).1
  done := by
    intro X hP hw hK hc i pins s σ H E I hf st hg
    subst hP hw hK
    obtain ⟨hd, hi⟩ := hg
    obtain ⟨f0, f1, f2, f3, f4, f5⟩ := hf it (by simp)
    obtain ⟨hs, hgd, hx, es', ep', hdt, hsz, ent⟩ := frz_tup I hd
    obtain ⟨rfl, rfl⟩ := dict_ep hod hdt
    obtain ⟨ok, ov, he⟩ := st
    rw [← hsz] at he
    exact DT.endI (I.ok.hd hc) he ⟨o, hgd, hx, hdt⟩ (by omega) fun h' eb => ⟨rfl, I.turned (t' := s.toks) (fun b ob hb e => eb b ob hb e) f0 f1 f3 f4 f5⟩
  self := fun A i s Q E st h => let ⟨_, _, e⟩ := st; PySem.W.kcp_self e h
end
def iTupItems (td : TE) : TI := fun σ H R => td σ H fun x H1 => ∃ d o kvs, x = .ref d ∧ H1 d = some (.frz o (.dT kvs)) ∧ R (ItT d o kvs) H1
theorem pi_tupItems {X : Cx} {e : Expr} {td : TE} {apos cpos : Pos} {elts : List Expr} {kk : Nat} {tpos : Pos} (he : PE X e td) (hbase : attributeBase e "items" X.env (eval e X.env) = eval e X.env := by rfl) (hline : (apos.endLine == cpos.line) = true := by rfl) :
    PI X (.Tuple elts kk tpos) (.Call (.Attribute e "items" apos) [] [] cpos) (iTupItems td) := by
  refine ⟨fun pins s σ H R I h => ?_⟩
  refine wpAny_Call_method (T := "dict") (id := "dict.items") hbase rfl hline F.plainAttrs_dict F.slot_dict_items F.type_dict_items (thn (he.run pins s σ H _ I h) fun u s1 ⟨x, H1, I1, rx, d, o, kvs, ex, hd, q⟩ => ?_)
  subst ex
  obtain rfl : u = Value.ref d := rx
  obtain ⟨hs, hgd, hx, es, ep, hdt, hsz, ent⟩ := frz_tup I1 hd
  have raw : DT.Raw s1.heap d es ep := ⟨o, hgd, hx, hdt⟩
  refine ⟨raw.typeIs, fun b z => ?_, ?_⟩
  · cases z
    exact ⟨o, hgd, hx.2.1⟩
  have I2 : Inv X pins σ H1 { s1 with heap := s1.heap.push { cls := .type "dict_items", data := .fields #[.ref d] } } := I1.kept (t' := s1.toks) fun b ob z => Heap.get?_push_of_some _ z
  have fin : wpAny (model X.prog X.w) X.A (pyIter (.ref s1.heap.objs.size)) (PIE X pins σ (.Tuple elts kk tpos) R) X.xe { s1 with heap := s1.heap.push { cls := .type "dict_items", data := .fields #[.ref d] } } := by
    refine DT.iterI (d := d) ⟨_, Heap.get?_push_size _ rfl, rfl, rfl⟩ (raw.push _) (pi_one (tk := s1.toks) I2 _ (turn_tup _ hdt) ⟨.none, .none, ?_⟩ q)
    rw [← hsz]
    exact Heap.get?_push_size _ rfl
  show wpAny _ _ (callWith cpos (.builtin "dict.items") [.ref d] [] []) _ X.xe s1
  exact method_meetsIn F.slot_dict_items F.entry_dict_items rfl (PySem.evalArgs_none ⟨rfl, raw.typeIs, F.args_dict_items_1 _, _, DT.meetsItems (es := es) (ep := ep) hs, raw, fin⟩)
theorem walk_tupItems {d : Addr} {o : Obj} {kvs : List (List L2.Key × L2.V)} : Walk (ItT d o kvs) kvs.length (fun H => H d = some (.frz o (.dT kvs))) (fun i H x H' => ∃ T k v q, kvs[i]? = some (k, v) ∧ H q = some (.tup (k.map kV)) ∧ x = .ref T ∧ H T = none ∧ H' = upd H T (.tup [.ref q, v])) :=
  ⟨fun _ _ hi g => ⟨g, hi⟩, fun _ g => ⟨g, Nat.le_refl _⟩, fun _ _ _ _ _ _ y => y⟩
end KB

namespace KB
open PySem PySem.Spec PyProof.Rows L2

/-! ### dict(pairs), the keys tuples -/
/-- a pair at p: the key's own tuple at q, a value -/
def PrT (H : Hp) (p : Addr) (kv : List L2.Key × L2.V) : Prop := ∃ q, H p = some (.tup [.ref q, kv.2]) ∧ H q = some (.tup (kv.1.map kV))
def mergeT (kvs more : List (List L2.Key × L2.V)) : List (List L2.Key × L2.V) := more.foldl (fun acc kv => putK acc kv.1 kv.2) kvs
section
variable {X : Cx} {pins : List (Addr × Obj)} {σ : L2.St} {H : Hp} {s : Shared}
theorem prs_of (I : Inv X pins σ H s) : ∀ {ps : List Addr} {kvs : List (List L2.Key × L2.V)}, Paired (PrT H) ps kvs → ∃ xs : List (List L2.Key × Addr × Value), xs.length = ps.length ∧ Paired (fun p q => p.1 = q.1 ∧ H q.2.1 = some (.tup (p.1.map kV)) ∧ RelV p.2 q.2.2) kvs xs ∧
    ∀ (j : Nat) (p : Addr), ps[j]? = some p → ∃ x : List L2.Key × Addr × Value, xs[j]? = some x ∧ IsTup s.heap p #[.ref x.2.1, x.2.2]
  | [], [], _ => ⟨[], rfl, .nil, fun j p e => by simp at e⟩
  | p :: ps, kv :: kvs, h => by
    cases h with
    | cons h1 h2 =>
      obtain ⟨xs, e1, e2, e3⟩ := prs_of I h2
      obtain ⟨q, g1, g2⟩ := h1
      obtain ⟨_, its, rv, o, ho, hc, n, hd⟩ := (show ObjOk X.prog X.w H s.heap p (.tup [.ref q, kv.2]) from I.hok p _ g1)
      cases rv with
      | cons r1 rv =>
        cases rv with
        | cons r2 rv =>
          cases rv
          cases r1
          rename_i u2
          refine ⟨(kv.1, q, u2) :: xs, by rw [List.length_cons, List.length_cons, e1], .cons ⟨rfl, g2, r2⟩ e2, fun j p' e => ?_⟩
          cases j with
          | zero =>
            have ep : p = p' := Option.some.inj e
            subst ep
            exact ⟨_, rfl, o, ho, hc, n, hd⟩
          | succ j => exact e3 j p' e
theorem storedT {H : Hp} : ∀ {kvs acc : List (List L2.Key × L2.V)} {xs ys : List (List L2.Key × Addr × Value)}, KT H kvs xs → KT H acc ys → KT H (mergeT acc kvs) (storedAllH ys xs)
  | [], acc, [], ys, _, h => h
  | kv :: kvs, acc, x :: xs, ys, h, h2 => by
    cases h with
    | cons a b =>
      obtain ⟨e1, e2, e3⟩ := a
      show KT H (mergeT (putK acc kv.1 kv.2) kvs) (storedAllH (storedH ys x.1 x.2.1 x.2.2) xs)
      refine storedT b ?_
      rw [← e1]
      exact h2.put kv.1 e2 e3
theorem mergeT_len : ∀ {kvs acc : List (List L2.Key × L2.V)}, (mergeT acc kvs).length ≤ acc.length + kvs.length
  | [], acc => Nat.le_refl _
  | kv :: kvs, acc => by
    have h1 := mergeT_len (kvs := kvs) (acc := putK acc kv.1 kv.2)
    have h2 := length_putK acc kv.1 kv.2
    show (mergeT (putK acc kv.1 kv.2) kvs).length ≤ acc.length + (kvs.length + 1)
    omega
end
section
variable {X : Cx}
/-- dict(xs) of a list of pairs, the keys tuples of numbers and texts -/
theorem call_dictT (hcalm : X.calm = true) (hu : (tupleKind (mixKind X.prog X.w)).room X.A.in1.in1) : CallR X (.type "dict") (fun xs H Q => ∃ (a : Addr) (ps : List Addr) (kvs : List (List L2.Key × L2.V)), xs = [.ref a] ∧ SqL X.K H a (ps.map V.ref) ∧ Paired (PrT H) ps kvs ∧
    ∀ p, H p = none → Q (.ref p) (upd H p (.dT (mergeT [] kvs)))) := by
  intro pins s σ H xs us Q I r q
  obtain ⟨a, ps, kvs, ex, hq, hp, q⟩ := q
  subst ex
  obtain ⟨u, eu, rx⟩ := vals1 r
  subst eu
  cases rx
  obtain ⟨its, rv, pl, hz⟩ := I.list hq
  have ei := refs_at rv
  subst ei
  rw [List.length_map] at hz
  obtain ⟨prs, hl, rel, hpr⟩ := prs_of I hp
  obtain ⟨o, n, ho, hc, hd, hdat⟩ := pl
  have hkl : kvs.length = prs.length := Paired.length rel
  have itm : PairItems s.heap (ps.map Value.ref).toArray (fun j => ps.getD j 0) (prs.map fun x => (Value.ref x.2.1, x.2.2)) := by
    refine ⟨by simp [hl], fun j k v e => ?_⟩
    rw [List.getElem?_map] at e
    obtain ⟨x, hx, hxe⟩ : ∃ x, prs[j]? = some x ∧ (Value.ref x.2.1, x.2.2) = (k, v) := by
      cases e0 : prs[j]? with
      | none => rw [e0] at e; cases e
      | some x => rw [e0] at e; exact ⟨x, rfl, Option.some.inj e⟩
    have hj : j < ps.length := by
      have := (List.getElem?_eq_some_iff.mp hx).1
      omega
    obtain ⟨x', hx', ht⟩ := hpr j ps[j] (List.getElem?_eq_getElem hj)
    rw [hx] at hx'
    cases hx'
    cases hxe
    have e5 : ps.getD j 0 = ps[j] := by simp [List.getD, List.getElem?_eq_getElem hj]
    have e6 : (fun j => ps.getD j 0) j = ps[j] := e5
    rw [e6]
    exact ⟨by simp [List.getElem?_eq_getElem hj], .inl ht⟩
  have keys : ∀ x ∈ prs, (tupleKind (mixKind X.prog X.w)).is s.heap x.1 x.2.1 := fun x hx => by
    obtain ⟨i, hi, rfl⟩ := List.mem_iff_getElem.mp hx
    obtain ⟨kv, _, e1, e2, _⟩ : ∃ kv, kvs[i]? = some kv ∧ kv.1 = prs[i].1 ∧ H prs[i].2.1 = some (.tup (kv.1.map kV)) ∧ RelV kv.2 prs[i].2.2 := by
      obtain ⟨b, hb, z⟩ := paired_get rel (List.getElem?_eq_getElem (show i < kvs.length by omega))
      rw [List.getElem?_eq_getElem hi] at hb
      cases hb
      exact ⟨_, List.getElem?_eq_getElem (show i < kvs.length by omega), z⟩
    rw [← e1]
    exact key_of I.hok e2
  have eps : (prs.map fun x => (Value.ref x.2.1, x.2.2)).length = prs.length := List.length_map _
  refine call_dict_pairsH (knd := tupleKind (mixKind X.prog X.w)) (ps := prs) (PairArg.list a (ps.map Value.ref).toArray (fun j => ps.getD j 0) (prs.map fun x => (Value.ref x.2.1, x.2.2))) (I.ok.hd hcalm) hu ⟨⟨o, n, ho, hc, hd, hdat⟩, itm⟩ ⟨eps.symm, fun i key v e => ?_⟩ (fun h' hk x hx => ?_) (by rw [eps, hl]; exact hz) fun h' tk hd' k => ?_
  · have e : (prs.map fun x => (Value.ref x.2.1, x.2.2))[i]? = some (key, v) := e
    rw [List.getElem?_map] at e
    cases e0 : prs[i]? with
    | none => rw [e0] at e; cases e
    | some x =>
      rw [e0] at e
      cases (Option.some.inj e)
      exact ⟨x.1, x.2.1, rfl, rfl⟩
  · exact tupleKind_stays.stays (fun b ob vs m hb _ => hk b ob (Nat.ne_of_lt (Heap.lt_size hb)) (by simp) hb) (keys x hx)
  · have hm : (s.heap.objs.size == sysModules) = false := beq_eq_false_iff_ne.mpr (Nat.ne_of_gt I.big)
    have hlen : (mergeT [] kvs).length ≤ sizeLine := by
      refine Nat.le_trans mergeT_len ?_
      rw [List.length_nil, Nat.zero_add, hkl, hl]
      exact hz
    have kt : KT (upd H s.heap.objs.size (.dT (mergeT [] kvs))) (mergeT [] kvs) (storedAllH [] prs) := KT.keeps (storedT rel .nil) fun b ys e => by
      rw [upd_ne (ne_of_none e (I.hok.fresh (Nat.le_refl _)))]
      exact e
    obtain ⟨o2, es2, ep2, w1, w2, w3, w4, w5, w6⟩ := hd'
    exact ⟨.ref s.heap.objs.size, upd H s.heap.objs.size (.dT (mergeT [] kvs)), I.laid (t' := tk) (fun b ob e => k b ob (by simp) e) (Nat.le_refl _) (show ObjOk X.prog X.w _ _ _ (.dT (mergeT [] kvs)) from ⟨hlen, hm, storedAllH [] prs, kt, o2, es2, ep2, w1, w2, w3, w4, w6⟩), rfl, q _ (I.hok.fresh (Nat.le_refl _))⟩
end
end KB

namespace KB
open PySem L2 HT

theorem put_new {kvs : List (List L2.Key × L2.V)} {k : List L2.Key} {v : L2.V} (h : k ∉ kvs.map (·.1)) : putK kvs k v = kvs ++ [(k, v)] := by
  unfold putK
  rw [if_neg]
  intro z
  obtain ⟨x, hx, e⟩ := List.any_eq_true.mp z
  exact h (List.mem_map.mpr ⟨x, hx, of_decide_eq_true e⟩)
theorem mergeT_nd : ∀ {more kvs : List (List L2.Key × L2.V)}, ((kvs ++ more).map (·.1)).Nodup → mergeT kvs more = kvs ++ more
  | [], kvs, _ => (List.append_nil kvs).symm
  | kv :: more, kvs, h => by
    show mergeT (putK kvs kv.1 kv.2) more = _
    have hn : kv.1 ∉ kvs.map (·.1) := by
      rw [List.map_append, List.nodup_append] at h
      exact fun z => h.2.2 _ z _ List.mem_cons_self rfl
    rw [put_new hn]
    have e : kvs ++ kv :: more = (kvs ++ [(kv.1, kv.2)]) ++ more := by simp
    rw [e] at h ⊢
    exact mergeT_nd h
theorem valV_mem : ∀ {kvs : List (List L2.Key × L2.V)} {k : List L2.Key} {v : L2.V}, (kvs.map (·.1)).Nodup → (k, v) ∈ kvs → valV kvs k = some v
  | kv :: r, k, v, h, hm => by
    unfold valV
    rw [List.find?_cons]
    rw [List.map_cons, List.nodup_cons] at h
    by_cases c : kv.1 = k
    · rw [decide_eq_true c]
      rcases List.mem_cons.mp hm with z | z
      · rw [← z]
        rfl
      · exact absurd (List.mem_map.mpr ⟨_, z, c.symm⟩) h.1
    · rw [decide_eq_false c]
      rcases List.mem_cons.mp hm with z | z
      · exact absurd (by rw [← z]) c
      · exact valV_mem h.2 z
def keyP (f : Str) (pl : List Int) : List L2.Key := .inr f :: pl.map .inl
theorem keyP_V (f : Str) (pl : List Int) : (keyP f pl).map kV = .str f :: pl.map V.int := by
  unfold keyP
  rw [List.map_cons, List.map_map]
  rfl
theorem keyP_inj {f : Str} {a b : List Int} (h : keyP f a = keyP f b) : a = b := by
  have h := (List.cons.inj h).2
  induction a generalizing b with
  | nil =>
    cases b with
    | nil => rfl
    | cons y s => cases h
  | cons x r ih =>
    cases b with
    | nil => cases h
    | cons y s =>
      obtain ⟨h1, h2⟩ := List.cons.inj h
      rw [Sum.inl.inj h1, ih (b := s) (by unfold keyP; exact congrArg _ h2) h2]
theorem ents {H : Hp} {nm : Str} : ∀ {es : List (List Int × Nd)} {its : List V}, All2 (EntV NAt H [.str nm]) es its → ∃ (ps : List Addr) (kvs : List (List L2.Key × L2.V)), its = ps.map V.ref ∧ PySem.Paired (PrT H) ps kvs ∧ kvs.map (·.1) = es.map (fun e => keyP nm e.1) ∧ All2 (fun e v => ∃ b, v = V.ref b ∧ NAt H e.2 b) es (kvs.map (·.2))
  | [], [], _ => ⟨[], [], rfl, .nil, rfl, trivial⟩
  | e :: es, v :: vs, ⟨⟨q, r, b, e1, h1, h2, h3⟩, t⟩ => by
    obtain ⟨ps, kvs, g1, g2, g3, g4⟩ := ents t
    refine ⟨q :: ps, (keyP nm e.1, .ref b) :: kvs, by rw [e1, g1]; rfl, .cons ⟨r, h1, by rw [h2, keyP_V]; rfl⟩ g2, by rw [List.map_cons, List.map_cons, g3], ⟨b, rfl, h3⟩, g4⟩
  | [], _ :: _, h => h.elim
  | _ :: _, [], h => h.elim
theorem keys_nd {nm : Str} {es : List (List Int × Nd)} (h : (es.map (·.1)).Nodup) : (es.map (fun e => keyP nm e.1)).Nodup := by
  have e : (es.map (fun e => keyP nm e.1)) = (es.map (·.1)).map (keyP nm) := by
    rw [List.map_map]
    rfl
  rw [e]
  exact List.Pairwise.map _ (fun a b hab z => hab (keyP_inj z)) h
theorem head_ask {H : Hp} {n : Nd} {a : Addr} (h : NAt H n a) : ∃ (x : Str) (r : List V), H a = some (.tup (.str x :: r)) ∧ (x = "ask" → ∃ g ts j, n = .inl (.ask g ts j)) := by
  cases n with
  | inl p =>
    obtain ⟨r, hr⟩ := h.1.head
    refine ⟨hsP p, r, hr, fun e => ?_⟩
    obtain ⟨g, ts, j, rfl⟩ := hsP_ask e
    exact ⟨g, ts, j, rfl⟩
  | inr t =>
    obtain ⟨h1, _⟩ := see_un h.1 h.2
    cases hu : unT t with
    | num z =>
      rw [hu] at h1
      exact ⟨_, _, h1, fun e => absurd e (by decide)⟩
    | nam z =>
      rw [hu] at h1
      exact ⟨_, _, h1, fun e => absurd e (by decide)⟩
    | two l s t =>
      rw [hu] at h1
      obtain ⟨b, c, h2, _⟩ := h1
      exact ⟨_, _, h2, fun e => by cases l <;> exact absurd e (by decide)⟩
theorem find_at {α β : Type} {f : α → Option β} {r : β} : ∀ {l : List α} {i : Nat} {a : α}, l[i]? = some a → (∀ k b, k < i → l[k]? = some b → f b = none) → f a = some r → l.findSome? f = some r
  | x :: l, 0, a, h, _, e => by
    cases h
    rw [List.findSome?_cons, e]
  | x :: l, i + 1, a, h, g, e => by
    have e0 := g 0 x (Nat.zero_lt_succ _) rfl
    rw [List.findSome?_cons, e0]
    exact find_at (l := l) (i := i) h (fun k b hk hb => g (k + 1) b (Nat.succ_lt_succ hk) hb) e
  | [], _, _, h, _, _ => by cases h
theorem sIx_neg {n d : Nat} (h : 1 ≤ n) : sIx n d (some (-1)) = n - 1 := by
  unfold sIx
  simp
  omega
theorem cut_init {xs : List V} {y : V} : cutV (xs ++ [y]) none (some (-1)) = xs := by
  unfold cutV
  rw [sIx_no, sIx_neg (by simp), List.drop_zero, Nat.sub_zero]
  simp
section
variable {P : Program} {w : World} {K : PySem.W.Frag} {mg : Str → Option Value} {base : Heap} {CN : Addr}
/-! ### not_carried_at -/
def spNot (CN : Addr) : Sp := fun vs H Q E => ∃ (p : Addr) (es : List TEr) (us : List V) (f : Str), vs = [.ref p, .str f] ∧ TBkAt H es us p ∧ (∀ e ∈ es, okL e.2.2 ∧ pcnt e.2.2 ≤ 11) ∧ (es.map (·.1)).Nodup ∧
  ((∀ e ∈ es, e.1 ≠ f) → E (.ref CN) none H) ∧
  (∀ e ∈ es, e.1 = f → (firstBad f e.2.2 = none → ∀ H', Same H H' → Q .non H') ∧ ∀ pl, firstBad f e.2.2 = some pl → ∀ a H', Same H H' → H' a = some (.tup (.str f :: pl.map V.int)) → Q (.ref a) H')
abbrev snot_carried_at : Stmt := top 19
theorem scnot_carried_at : FnScope ["turned", "f", "name", "names", "body", "found", "place", "part", "is_own"] ["turned", "f"] (defScope snot_carried_at) := ⟨rfl, rfl, rfl, by decide +kernel, rfl, by decide +kernel, by decide +kernel⟩
theorem dictRoom {X : Cx} (h : X.A.units + 64 < cLine) : (tupleKind (mixKind X.prog X.w)).room X.A.in1.in1 := by
  show X.A.units + 2 < cLine
  omega
theorem ok_not (T : Txt K mg) (hH : ∃ t, mg "HOME" = some (.str "home" t)) {f f1 f2 f3 f4 f5 : Addr} {fd d1 d2 d3 d4 d5 : FuncData} (F : Fun K "not_carried_at" "not_carried_at" snot_carried_at f fd)
    (Gneed_errand : FnOk P w K mg base (L2.CX P w) 2 f1 d1 ["book", "f"] (spNeedE CN)) (Rneed_errand : Ref K mg "need_errand" f1 d1 ["book", "f"]) (Gerrand_named : FnOk P w K mg base CX0 1 f2 d2 ["book", "f"] spNamT) (Rerrand_named : Ref K mg "errand_named" f2 d2 ["book", "f"])
    (Gplaced : FnOk P w K mg base CX0 3 f3 d3 ["name", "body", "parts"] (spPlaced TrN f4)) (Rplaced : Ref K mg "placed" f3 d3 ["name", "body", "parts"]) (Rturned_parts : Ref K mg "turned_parts" f4 d4 ["part"])
    (Gis_added_up : FnOk P w K mg base CX0 3 f5 d5 ["post"] spAdd) (Ris_added_up : Ref K mg "is_added_up" f5 d5 ["post"]) : FnOk P w K mg base (L2.CX P w) 4 f fd ["turned", "f"] (spNot CN) := by
  refine F.okX scnot_carried_at (fun vs H Q E h => ?_) (fun cdv A outer s H vs Q E hr h => ?_)
  · obtain ⟨p, es, us, f, rfl, _⟩ := h
    rfl
  obtain ⟨p, es, us, nm, rfl, hB, hok, hnd, q1, q2⟩ := h
  obtain ⟨tH, mH⟩ := hH
  have tk : Takes (cxOf (L2.CX P w) P w K mg base ["turned", "f", "name", "names", "body", "found", "place", "part", "is_own"] "not_carried_at" (defScope snot_carried_at) f cdv A outer s H E) (fun cls d σ H' => E cls d H') := takes_of rfl rfl rfl rfl
  refine ⟨_, (pss_cons (ps_expr (pe_callS Gneed_errand (hr.mono (by omega)) rfl Rneed_errand.m Rneed_errand.k Rneed_errand.b (fun σ => passAt tk σ) (pa_cons (pv 0) (pa_cons (pv 1) pa_nil))))
    (pss_cons (ps_asg (pe_call Gerrand_named (hr.mono (by omega)) rfl Rerrand_named.m Rerrand_named.k Rerrand_named.b .nil pass0 (pa_cons (pv 0) (pa_cons (pv 1) pa_nil))) (pg_tup rfl (pgs_cons (pg_name (i := 2) scnot_carried_at.nd rfl (Or.inl rfl)) (pgs_cons (pg_name (i := 3) scnot_carried_at.nd rfl (Or.inl rfl)) (pgs_cons (pg_name (i := 4) scnot_carried_at.nd rfl (Or.inl rfl)) pgs_nil)))))
    (pss_cons (ps_set (i := 5) scnot_carried_at.nd rfl (Or.inl rfl) (pe_callTy (call_dictT rfl (dictRoom hr.units)) (by rfl) T.m_dict (by decide +kernel) (pa_cons (pe_call Gplaced (hr.mono (by omega)) rfl Rplaced.m Rplaced.k Rplaced.b .nil pass0 (pa_cons (pv 1) (pa_cons (pv 4) (pa_cons (pe_glob (v := .ref f4) rfl Rturned_parts.m rfl) pa_nil)))) pa_nil)))
    (pss_cons (ps_lock (ps_for (passes_of rfl) rfl (pi_tupItems (pv 5)) (pg_tup rfl (pgs_cons (pg_name (i := 6) scnot_carried_at.nd rfl (Or.inl rfl)) (pgs_cons (pg_name (i := 7) scnot_carried_at.nd rfl (Or.inl rfl)) pgs_nil))) (pss_cons (ps_set (i := 8) scnot_carried_at.nd rfl (Or.inl rfl) (pe_and (pe_cmpR op_eq (pe_ix ix_tup (pv 7) pe_int (fun _ _ => rfl)) pe_str (nomark _)) (pe_one (pe_cmpR op_eq (pe_ix ix_tup (pv 7) pe_int (fun _ _ => rfl)) (pv 1) (nomark _)))))
      (pss_one (ps_if (PW.pt (pw_and (pt_val (pv 8)) (pw_and (pt_cmpR op_ne (pe_ix ix_tup (pv 7) pe_int (fun _ _ => rfl)) (pe_glob (v := .str "home") rfl mH ⟨_, rfl⟩) (nomark _)) (pw_and1 (pt_not (pt_val (pe_call Gis_added_up (hr.mono (by omega)) rfl Ris_added_up.m Ris_added_up.k Ris_added_up.b .nil pass0 (pa_cons (pe_dget (hu_of hr) (pv 5) (pe_slice sl_tup (pv 6) po_none (po_some (pe_un un_neg pe_int))) (fun _ _ => rfl)) pa_nil)))))))) (pss_one (ps_ret (pv 6))) pss_nil)))))
    (pss_one (ps_ret pe_non)))))), ?_⟩
  refine ⟨_, rfl, _, rfl, p, es, us, nm, rfl, hB, fun hyes => ?_, fun hno => q1 hno⟩
  refine ⟨_, rfl, _, rfl, p, es, us, nm, rfl, hB, fun i e he hn _ v hv => ?_, fun hno => ?_⟩
  rotate_left
  · obtain ⟨e, he, hn⟩ := hyes
    exact absurd hn (hno e he)
  have hem := mem_of_get he
  obtain ⟨q2n, q2s⟩ := q2 e hem hn
  obtain ⟨okl, cn11⟩ := hok e hem
  obtain ⟨qa, r, b, rfl, g1, g2, g3⟩ := hv
  have hcn := ncnt_le (okL_k okl)
  refine ⟨qa, _, rfl, SqT.of g1, rfl, _, _, rfl, _, _, rfl, _, _, rfl, rfl, ?_⟩
  refine ⟨_, rfl, _, rfl, nm, b, .inl e.2.2, rfl, ⟨g3, okL_k okl⟩, (by show ncnt e.2.2 ≤ 1000; omega), fun L H1 its hL s1 e1 k1 => ?_⟩
  have k1 : All2 (EntV NAt H1 [.str nm]) (plQ e.2.2) its := k1
  obtain ⟨ps, kvs, rfl, hpr, hks, hvs⟩ := ents k1
  have hnd1 : ((plQ e.2.2).map (·.1)).Nodup := pl_nd TrN _ (.inl e.2.2) (Nat.le_refl _)
  have hkn : (kvs.map (·.1)).Nodup := by
    rw [hks]
    exact keys_nd hnd1
  have hlen : kvs.length = (plA e.2.2).length := by
    have := congrArg List.length hks
    rw [List.length_map, List.length_map, ← er_all, List.length_map] at this
    exact this
  refine ⟨L, ps, kvs, rfl, SqL.of e1, hpr, fun D hD => ?_⟩
  rw [mergeT_nd (kvs := []) (by simpa using hkn), List.nil_append]
  refine ⟨D, .dT kvs, upd_same, trivial, fun od => ?_⟩
  have s3 : Same H1 (upd (upd H1 D (.dT kvs)) D (.frz od (.dT kvs))) := fun b' o hb => by
    have nb : b' ≠ D := ne_of_none hb hD
    rw [upd_ne nb, upd_ne nb]
    exact hb
  have hD3 : (upd (upd H1 D (.dT kvs)) D (.frz od (.dT kvs))) D = some (.frz od (.dT kvs)) := upd_same
  generalize (upd (upd H1 D (.dT kvs)) D (.frz od (.dT kvs))) = H3 at s3 hD3 ⊢
  have back : ∀ H4, Same H3 H4 → Same H (upd H4 D (.dT kvs)) := fun H4 s4 b' o hb => by
    have h1 := s1 _ _ hb
    rw [upd_ne (ne_of_none h1 hD)]
    exact s4 _ _ (s3 _ _ h1)
  refine ⟨_, rfl, D, od, kvs, rfl, hD3, for_it walk_tupItems (fun i σ H' => ∃ o6 o7 o8, σ = [some (.ref p), some (.str nm), some (.str e.1), some (.ref r), some (.ref b), some (.ref D), o6, o7, o8] ∧ Same H3 H' ∧ ∀ k en, k < i → (plA e.2.2)[k]? = some en → badE nm en = none) ?_ ?_ ?_ ?_⟩
  · exact ⟨_, _, _, rfl, fun _ _ z => z, fun k en h => absurd h (Nat.not_lt_zero _)⟩
  · rintro i σ H4 _ ⟨o6, o7, o8, rfl, s4, _⟩
    exact s4 _ _ hD3
  · rintro i x σ H4 H5 hi ⟨o6, o7, o8, rfl, s4, hno⟩ ⟨T', k, v, q, hkv, hq, rfl, hT, rfl⟩
    refine ⟨T', _, rfl, SqT.of upd_same, rfl, _, _, rfl, _, _, rfl, rfl, ?_⟩
    have s5 := same_new hT (.tup [.ref q, v])
    have hil : i < (plA e.2.2).length := by omega
    obtain ⟨en, hen⟩ : ∃ en, (plA e.2.2)[i]? = some en := ⟨_, List.getElem?_eq_getElem hil⟩
    have hes : (plQ e.2.2)[i]? = some (erA en) := by
      rw [← er_all, List.getElem?_map, hen]
      rfl
    have hk : k = keyP nm en.1 := by
      have z := congrArg (fun l => l[i]?) hks
      simp only [List.getElem?_map, hkv, hes] at z
      exact Option.some.inj z
    obtain ⟨ee, hee, bv, rfl, hN⟩ := hvs.get (i := i) (v := v) (by rw [List.getElem?_map, hkv]; rfl)
    rw [hes] at hee
    obtain rfl := Option.some.inj hee
    have hN : NAt H1 en.2.1 bv := hN
    have s15 : Same H1 (upd H4 T' (.tup [.ref q, .ref bv])) := (s3.trans s4).trans s5
    have next : badE nm en = none → ∀ o8', ∃ o6 o7 o8, ([some (.ref p), some (.str nm), some (.str e.1), some (.ref r), some (.ref b), some (.ref D), some (.ref q), some (.ref bv), o8'] : St) = [some (.ref p), some (.str nm), some (.str e.1), some (.ref r), some (.ref b), some (.ref D), o6, o7, o8] ∧ Same H3 (upd H4 T' (.tup [.ref q, .ref bv])) ∧ ∀ k en, k < i + 1 → (plA e.2.2)[k]? = some en → badE nm en = none := fun hb o8' => ⟨_, _, _, rfl, s4.trans s5, fun k en' hk' he' => by
      by_cases c : k = i
      · subst c
        rw [hen] at he'
        cases he'
        exact hb
      · exact hno k en' (by omega) he'⟩
    have q5 := s5 _ _ hq
    have gd := good_all okl en (mem_of_get hen)
    generalize upd H4 T' (.tup [.ref q, .ref bv]) = H5 at s15 s5 next q5 ⊢
    have next2 : badE nm en = none → ∀ o8' H7, Same H5 H7 → _ := fun hb o8' H7 (s7 : Same H5 H7) => (by
      obtain ⟨a1, a2, a3, z1, z2, z3⟩ := next hb o8'
      exact ⟨a1, a2, a3, z1, z2.trans s7, z3⟩ : ∃ o6 o7 o8, ([some (.ref p), some (.str nm), some (.str e.1), some (.ref r), some (.ref b), some (.ref D), some (.ref q), some (.ref bv), o8'] : St) = [some (.ref p), some (.str nm), some (.str e.1), some (.ref r), some (.ref b), some (.ref D), o6, o7, o8] ∧ Same H3 H7 ∧ ∀ k en, k < i + 1 → (plA e.2.2)[k]? = some en → badE nm en = none)
    obtain ⟨hx, rr, hh, hask⟩ := head_ask hN
    refine ⟨_, rfl, bv, _, _, _, rfl, rfl, SqT.of (s15 _ _ hh), at0, rfl, _, rfl, ?_⟩
    by_cases ha : hx = "ask"
    · obtain ⟨g, ts, j, hn'⟩ := hask ha
      obtain ⟨el, en2, eh⟩ := en
      have hn' : en2 = .inl (.ask g ts j) := hn'
      subst hn'
      obtain ⟨⟨qq, vq, ha1, _⟩, _⟩ := hN
      have ha5 := s15 _ _ ha1
      refine itT (by rw [ha]; rfl) ?_
      refine ⟨_, rfl, bv, _, _, _, rfl, rfl, SqT.of ha5, at1, _, rfl, rfl, ?_⟩
      refine ⟨_, rfl, _, rfl, ?_⟩
      by_cases hg : g = nm
      · subst hg
        refine itT (decide_eq_true rfl) ?_
        refine ⟨_, rfl, bv, _, _, _, rfl, rfl, SqT.of ha5, at3, rfl, _, rfl, ?_⟩
        cases eh with
        | none =>
          have hj : j = "home" := gd g ts j rfl
          subst hj
          exact itF rfl (iteF (next rfl _))
        | some z =>
          obtain ⟨g', x, p'⟩ := z
          obtain ⟨dl, j', ts', d1, d2, d3, d4⟩ := gd
          cases d2
          have d9 : el = dl ++ [1] := d1
          refine itT (by rw [decide_eq_false (fun z => d3 (V.str.inj z))]; rfl) ?_
          have kq : k.map kV = (.str g :: dl.map V.int) ++ [.int 1] := by
            rw [hk, keyP_V]
            show V.str g :: el.map V.int = _
            rw [d9, List.map_append]
            rfl
          rw [kq] at q5
          obtain ⟨m, hm⟩ := List.mem_iff_getElem?.mp d4
          have hml : m < kvs.length := by
            rw [hlen]
            have := (List.getElem?_eq_some_iff.mp hm).1
            rw [← er_all, List.length_map] at this
            exact this
          have hkm : kvs[m]? = some kvs[m] := List.getElem?_eq_getElem hml
          have hk1 : kvs[m].1 = keyP g dl := by
            have z := congrArg (fun l => l[m]?) hks
            simp only [List.getElem?_map, hkm, hm] at z
            exact Option.some.inj z
          obtain ⟨e3, he3, bp, hv3, hN3⟩ := hvs.get (i := m) (v := kvs[m].2) (by rw [List.getElem?_map, hkm]; rfl)
          rw [hm] at he3
          obtain rfl := Option.some.inj he3
          have hmem : (keyP g dl, V.ref bp) ∈ kvs := by
            have := List.getElem_mem hml
            rw [← hk1, ← hv3]
            exact this
          have hD5 := s5 _ _ (s4 _ _ hD3)
          refine ⟨_, rfl, _, rfl, _, rfl, _, rfl, q, _, rfl, SqT.of q5, ?_, fun pk hpk => ?_⟩
          · rintro ⟨_, z⟩
            rw [sIx_neg (by simp)] at z
            simp at z
          rw [cut_init]
          have s6 := same_new hpk (.tup (V.str g :: dl.map V.int))
          have hD6 := s6 _ _ hD5
          have hp6 : upd H5 pk (.tup (V.str g :: dl.map V.int)) pk = some (.tup ((keyP g dl).map kV)) := by
            rw [upd_same, keyP_V]
          have q6 := s6 _ _ q5
          have s16 := s15.trans s6
          generalize upd H5 pk (.tup (V.str g :: dl.map V.int)) = H6 at s6 hD6 hp6 q6 s16 ⊢
          refine ⟨D, .ref bp, rfl, .inr ⟨kvs, keyP g dl, pk, .inr ⟨od, hD6⟩, rfl, hp6, (valV_mem hkn hmem).symm⟩, ?_⟩
          refine ⟨bp, _, x, p', _, rfl, PAt.tk (tk_same s16) hN3.1, hN3.2, fun H7 s7 => ⟨_, rfl, ?_⟩⟩
          have s67 := s6.trans s7
          cases hadd : isAddP x p' with
          | true =>
            refine iteF (next2 ?_ _ _ s67)
            show (if (decide (g = g) && !isAddP x p') = true then _ else none) = none
            rw [hadd, decide_eq_true rfl]
            rfl
          | false =>
            have hbad : badE g (el, Sum.inl (Pt.ask g ts j), some (g, x, p')) = some el := by
              show (if (decide (g = g) && !isAddP x p') = true then some el else none) = some el
              rw [hadd, decide_eq_true rfl]
              rfl
            have hfb : firstBad g e.2.2 = some el := by
              rw [← find_first okl]
              exact find_at hen hno hbad
            have q7 := s7 _ _ q6
            have nqD : q ≠ D := ne_of q7 (s7 _ _ hD6) (fun z => by cases z)
            refine iteT ⟨_, rfl, s7 _ _ hD6, q2s el hfb q _ (back _ ((s4.trans s5).trans s67)) ?_⟩
            rw [upd_ne nqD, q7, d9, List.map_append]
            rfl
      · refine itF (decide_eq_false fun z => hg (V.str.inj z)) (iteF (next ?_ _))
        cases eh with
        | none => rfl
        | some z =>
          obtain ⟨g', x, p'⟩ := z
          obtain ⟨dl, j', ts', d1, d2, d3, d4⟩ := gd
          cases d2
          show (if (decide (g = nm) && _) = true then _ else none) = none
          rw [decide_eq_false hg]
          rfl
    · refine itF (decide_eq_false fun z => ha (V.str.inj z)) ?_
      refine ⟨_, rfl, _, rfl, itF rfl (iteF (next ?_ _))⟩
      obtain ⟨el, en2, eh⟩ := en
      cases eh with
      | none => rfl
      | some z =>
        obtain ⟨g', x, p'⟩ := z
        obtain ⟨dl, j', ts', d1, d2, d3, d4⟩ := gd
        have d2 : en2 = .inl (.ask g' ts' j') := d2
        subst d2
        obtain ⟨⟨qq, vq, ha1, _⟩, _⟩ := hN
        rw [hh] at ha1
        cases ha1
        exact absurd rfl ha
  · rintro σ H4 ⟨o6, o7, o8, rfl, s4, hno⟩
    refine ⟨s4 _ _ hD3, ?_⟩
    refine q2n ?_ _ (back _ s4)
    rw [← find_first okl, List.findSome?_eq_none_iff]
    intro en hen
    obtain ⟨k, hk⟩ := List.mem_iff_getElem?.mp hen
    exact hno k en (by rw [hlen]; exact (List.getElem?_eq_some_iff.mp hk).1) hk
end
end KB

namespace KB
open PySem PySem.Spec PyProof.Rows L2

/-- an exception object that was caught and is kept, at a -/
def KeptX (cls : Value) (d : Option Addr) (a : Addr) : HO := .ext fun h => ∃ (oe : Obj) (vs : Array Value), h.get? a = some oe ∧ Zc cls d oe ∧ oe.data = .fields vs
section
variable {X : Cx} {pins : List (Addr × Obj)} {σ : L2.St} {H : Hp} {s : Shared}
theorem track {a : Addr} {oe : Obj} {cls : Value} {d : Option Addr} (I : L2.Inv X pins σ H s) (ha : s.heap.get? a = some oe) (hz : Zc cls d oe) (hd : ∃ vs, oe.data = .fields vs) (na : H a = none) (nL : a ≠ X.env.locals)
    (n0 : X.s_0.heap.get? a = none) (hp : ∀ p ∈ X.pn ++ pins, p.1 ≠ a) : L2.Inv X pins σ (upd H a (KeptX cls d a)) s := by
  have ne0 : ∀ b o, X.s_0.heap.get? b = some o → b ≠ a := fun b o e z => by
    rw [z, n0] at e
    cases e
  obtain ⟨vs, hd⟩ := hd
  refine ⟨I.ok, I.os, I.bare, ⟨I.base.keep, I.base.slot, fun b o e n hq => ?_, I.base.there, fun b xs e => ?_, fun b o u e => ?_, fun b ps e => ?_⟩, I.loc, I.cell, ?_, fun x c e => ?_, fun p hpp => ?_, ?_, I.len⟩
  · rw [upd_ne (ne0 b o e)]
    exact I.base.free b o e n hq
  · have q := I.base.tups b xs e
    rw [upd_ne (ne_of_none q na)]
    exact q
  · have q := I.base.frzs b o u e
    rw [upd_ne (ne_of_none q na)]
    exact q
  · obtain ⟨m, q⟩ := I.base.tbls b ps e
    exact ⟨m, by rw [upd_ne (ne_of_none q na)]; exact q⟩
  · rw [upd_ne (Ne.symm nL)]
    exact I.free
  · have hc : c ≠ a := fun z => by
      obtain ⟨v, o, ho, hv⟩ := I.cell x c e
      rw [z, ha] at ho
      cases ho
      rw [hd] at hv
      cases hv
    rw [upd_ne hc]
    exact I.freeC x c e
  · obtain ⟨e, n, ne, nf, dd⟩ := I.pin p hpp
    exact ⟨e, by rw [upd_ne (hp p hpp)]; exact n, ne, nf, dd⟩
  · exact I.hok.laidN (fun _ _ q => q) na ⟨⟨oe, vs, ha, hz, hd⟩, ⟨oe, ha⟩, fun _ _ ⟨o, v, q, r⟩ k => ⟨o, v, k o q, r⟩⟩
end
/-- what the clause wishes: slot i is its name's; the suite leaves the error kept -/
def wKeep (K : PySem.W.Frag) (c : Value) (i : Nat) (ts : Addr → Value → Option Addr → TS) (Wout : WX) (D : Ends) : WX := fun cls d σ H =>
  ∃ b, PySem.W.exmOne K cls c = some b ∧ (b = true → ∀ a, H a = none → ts a cls d { nx := fun σ' H' => D.nx (σ'.set i none) (upd H' a (KeptX cls d a)), rt := fun _ _ => False, bk := fun _ _ => False, ct := fun _ _ => False } (σ.set i (some (.ref a))) H) ∧
    (b = false → Wout cls d σ H)
section
variable {X : Cx} {x n : Str} {c : Value} {i : Nat} {body suite : List Stmt} {b₀ : Stmt} {np pos pos' : Pos} {tb : WX → TS} {ts : Addr → Value → Option Addr → TS} {Wout : WX}
theorem ps_try_keep (hex : X.ex = []) (hs : X.stack = X.env :: X.outer) (hf : X.env.frame = some X.env.locals) (hN : X.N.Nodup) (hi : X.N[i]? = some n) (hln : X.env.kindOf n = some .local) (hc : Names X x c) (tk : Takes X Wout)
    (hb : ∀ (W : WX) (pn : List (Addr × Obj)) (xe : Value → Shared → Prop), Takes (X.tr pn xe) W → PassesOwn (model X.prog X.w) X.A X.env xe → PSs (X.tr pn xe) body (tb W))
    (hsu : ∀ (a : Addr) (oe : Obj) (cls : Value) (d : Option Addr) (pn : List (Addr × Obj)), Zc cls d oe → (∃ vs, oe.data = .fields vs) → PSs (X.suite a ((a, oe) :: pn)) (b₀ :: suite) (ts a cls d)) :
    PS X (.Try body [.ExceptHandler (some (.Name x np)) (some n) (b₀ :: suite) pos'] [] [] pos) (fun D σ H => tb (wKeep X.K c i ts Wout D) D σ H) := by
  refine ⟨fun pins s σ H D I h => ?_⟩
  have ok := I.ok
  have hfr : X.A.frames = some (X.env :: X.outer) := by rw [ok.frames, hs]
  have hloc : Loc X.env.scope n := .inl hln
  refine wpAny_Try_except ?_
  refine wpAny_mono ((hb (wKeep X.K c i ts Wout D) (X.pn ++ pins) (fun e s₁ => wpAny (model X.prog X.w) X.A (noteFrame e X.env) (fun _ s₂ => wpAny (model X.prog X.w) X.A (setFlight e none) (fun _ s₃ =>
    wpAny (model X.prog X.w) X.A (handleBy e X.env [.ExceptHandler (some (.Name x np)) (some n) (b₀ :: suite) pos']) (SP X pins D) X.xe s₃) X.xe s₂) X.xe s₁) (fun u s' xx => ?_) PassesOwn.looking).run [] s σ H D (I.toTry _) h) (fun f s1 hsp => ?_) (fun e s1 he => he)
  · obtain ⟨a, B, sI, pins', σ', H', cls, d, rfl, J', nb, up, sky, na, os, ag, b, hb1, hyes, hno⟩ := xx
    have J : L2.Inv X pins σ' H' sI := J'.ofTry ok
    have sky' : Sky B (X.env :: X.outer) a (Zc cls d) X.env.locals s'.heap := by rw [← hs]; exact sky
    show wpAny (model X.prog X.w) X.A (noteFrame (.ref a) X.env) _ _ _
    refine Sky.land Zc.steady hfr hf sky' fun h3 fl3 up3 => ?_
    have J3 : L2.Inv X pins σ' H' { s' with heap := h3 } := J.landed nb fl3.1 (up.trans up3) os ag
    obtain ⟨oe3, vs3, he3, hz3, hd3⟩ := fl3.there
    have notFr : ∀ {h : Heap} {o : Obj} {vs : Array Value}, h.FunFrames B (X.env :: X.outer) → h.get? a = some o → o.data = .fields vs → a ∉ frs (X.env :: X.outer) := fun {h o vs} ff e dd hm => by
      obtain ⟨_, o', e', hnf⟩ := ff.mem hm
      rw [e] at e'; cases e'
      exact hnf _ dd
    have nfr := notFr fl3.2.2.1 he3 hd3
    have nL : a ≠ X.env.locals := fun z => nfr (List.mem_filterMap.mpr ⟨X.env, List.mem_cons_self, by rw [hf, z]⟩)
    have nF : a ∉ X.fs := fun hm => by
      obtain ⟨e, he, q⟩ := List.mem_filterMap.mp hm
      exact nfr (List.mem_filterMap.mpr ⟨e, List.mem_cons_of_mem _ he, q⟩)
    -- the error is new since the entry
    have nI : sI.heap.get? a = none := by
      cases e : sI.heap.get? a with
      | none => rfl
      | some o =>
        have z := nb a o e (by rw [hs]; exact nfr)
        rw [fl3.2.1] at z
        cases z
    have n0 : X.s_0.heap.get? a = none := by
      cases e : X.s_0.heap.get? a with
      | none => rfl
      | some o =>
        obtain ⟨o', z⟩ := J.base.there a o e (by rw [hex]; exact fun z => nomatch z)
        rw [nI] at z
        cases z
    have hpp : ∀ p ∈ X.pn ++ pins, p.1 ≠ a := fun p hp z => by
      have q := (J.pin p hp).1
      rw [z, nI] at q
      cases q
    have S3 := J3.suite he3 hd3 na nL nF
    refine wpAny_handleBy_cons (codeAny_handlers_test ?_) (by intro q; cases q)
    have LT : PySem.W.Looks (model X.prog X.w) h3 (typeOf (.ref a)) cls := fun A Q E s k q => wpAny_typeOf_ref (k _ _ he3) (by rw [hz3.1]; exact q)
    have LM := PySem.W.exm_one (M := model X.prog X.w) (J3.kIn) LT hb1
    have test : ∀ {Q : Value → Shared → Prop} {E : Value → Shared → Prop}, Q c { s' with heap := h3 } → wpAny (model X.prog X.w) (X.A.mark (some (.ref a))) (eval (.Name x np) X.env) Q E { s' with heap := h3 } := fun {Q E} q => by
      obtain ⟨hg, hdbg, hm | ⟨hm, hv, hnn⟩⟩ := hc
      · exact ld_glob (X := X.suite a ((a, oe3) :: (X.pn ++ pins))) S3 hg hm q hdbg
      · exact ld_blt (X := X.suite a ((a, oe3) :: (X.pn ++ pins))) S3 hg hm hv q hnn hdbg
    refine test (LM.here ?_)
    cases b with
    | true =>
      refine codeAny_handlers_suite_as ?_
      refine HandSPX.lands_againZ fl3 fun h4 fl4 up4 => ?_
      have J4 : L2.Inv X pins σ' H' { s' with heap := h4 } := J.landed nb fl4.1 ((up.trans up3).trans up4) os ag
      obtain ⟨oe4, vs4, he4, hz4, hd4⟩ := fl4.there
      have S4 := J4.suite he4 hd4 na nL nF
      refine store_ok (X := X.suite a ((a, oe4) :: (X.pn ++ pins))) (v := .ref a) S4 hN hi hloc rfl (fun s5 S5 => ?_) (.inr hln)
      refine wpAny_mono ((hsu a oe4 cls d (X.pn ++ pins) hz4 ⟨_, hd4⟩).run [] s5 _ H' _ S5 (hyes rfl a na)) (fun f s6 hsp => ?_) (fun _ _ z => False.elim z)
      cases f with
      | next =>
        obtain ⟨σ6, H6, S6, q6⟩ := hsp
        obtain ⟨g1, g2, _⟩ := S6.pin (a, oe4) (List.mem_append_left _ List.mem_cons_self)
        have J6 := track (S6.unsuite ok) g1 hz4 ⟨_, hd4⟩ g2 nL n0 hpp
        exact gone_ok J6 hN hi hln fun s7 J7 => ⟨_, _, J7, q6⟩
      | brk =>
        obtain ⟨σ6, H6, S6, q6⟩ := hsp
        exact q6.elim
      | cont =>
        obtain ⟨σ6, H6, S6, q6⟩ := hsp
        exact q6.elim
      | ret u =>
        obtain ⟨v6, σ6, H6, S6, r6, q6⟩ := hsp
        exact q6.elim
    | false =>
      show wpAny _ X.A (handleBy (.ref a) X.env []) _ _ _
      refine wpAny_handleBy_nil ?_
      obtain ⟨k1, k2, k3, oe, vs, T, oT, ts', he, hz, hd, h1, hr⟩ := id fl3
      unfold PySem.passOn
      refine wpAny_bind (wpAny_field he hd h1 ?_)
      rw [if_neg (show ¬ ((Value.ref T == Value.none) = true) from by simp)]
      have fin : wpAny (model X.prog X.w) X.A (setFlight (.ref a) X.env.frame) (fun _ s4 => wpAny (model X.prog X.w) X.A (throw (.ref a) : Sem Flow) (SP X pins D) X.xe s4) X.xe { s' with heap := h3 } := by
        rw [hf]
        refine HandSPX.setFlight_upZ fl3 fun h4 hh4 up4 => wpAny_throw (tk _ _ ?_)
        exact ⟨a, B, sI, pins, σ', H', cls, d, rfl, J, nb, (up.trans up3).trans up4, .inr (.inr (by rw [hs]; exact hh4)), na, os, ag, hno rfl⟩
      first
        | exact wpAny_bind (wpAny_pure (wpAny_bind fin))
        | exact wpAny_bind fin
  · cases f with
    | next =>
      obtain ⟨σ', H', J', q⟩ := hsp
      exact wpAny_execs_nil ⟨σ', H', J'.ofTry ok, q⟩
    | brk =>
      obtain ⟨σ', H', J', q⟩ := hsp
      exact ⟨σ', H', J'.ofTry ok, q⟩
    | cont =>
      obtain ⟨σ', H', J', q⟩ := hsp
      exact ⟨σ', H', J'.ofTry ok, q⟩
    | ret u =>
      obtain ⟨v, σ', H', J', r, q⟩ := hsp
      exact ⟨v, σ', H', J'.ofTry ok, r, q⟩
end
end KB

namespace KB
open PySem PySem.Spec PyProof.Rows L2

/-! ### isinstance of a kept error, count of truths -/
def rIsX (K : PySem.W.Frag) : List V → Hp → VK → Prop := fun xs H Q => ∃ (a D : Addr) (c : V) (cv : Value) (b : Bool), xs = [.ref a, c] ∧ ExcC K D ∧ H a = some (KeptX (.ref D) none a) ∧ (∀ u, RelV c u → u = cv) ∧ PySem.W.kitOne K (.ref D) cv = some b ∧ Q (.bl b) H
theorem call_isX {X : Cx} : CallR X (.builtin "isinstance") (rIsX X.K) := by
  intro pins s σ H xs us Q I r h
  obtain ⟨a, D, c, cv, b, rfl, C, hk, hcv, e, q⟩ := h
  cases r with
  | cons rx rr =>
    cases rr with
    | cons rt rr =>
      cases rr
      cases rx
      have ec := hcv _ rt
      subst ec
      obtain ⟨⟨oe, vs, hget, hz, hv⟩, _, _⟩ := I.hok a _ hk
      have J : PySem.W.InstAt s.heap a oe D none := by
        obtain ⟨oc, od, oda, osl⟩ := oe
        obtain ⟨h1, h2⟩ := hz
        dsimp only at h1 h2 hv
        subst h1 h2 hv
        exact ⟨hget, rfl, rfl, trivial⟩
      exact PySem.W.kia_one (PySem.W.handS_kitx_exc C.hg C.hk C.hs C.hd C.ha C.hn C.ht C.hm) I.kIn J e (fun z => nomatch z) fun tk => ⟨.bl b, H, I.kept (t' := tk) fun _ _ z => z, rfl, q⟩
def eqb (k : Bool) (v : Value) : Bool := match v with
  | .bool n => n == k
  | _ => false
theorem eqb_count {k : Bool} : ∀ {us : List Value} {bs : List Bool}, Vals (bs.map V.bl) us → us.countP (eqb k) = bs.count k
  | us, [], h => by
    cases h
    rfl
  | us, b :: bs, h => by
    cases h with
    | cons r t =>
      rename_i u us'
      have e : u = .bool b := r
      subst e
      have ih := eqb_count (k := k) (bs := bs) t
      rw [List.countP_cons, List.count_cons, ih] <;> rfl
theorem vals_bl {us : List Value} {bs : List Bool} (h : Vals (bs.map V.bl) us) : ∀ y ∈ us, ∃ b, y = .bool b := by
  induction bs generalizing us with
  | nil =>
    cases h
    intro y hy
    cases hy
  | cons b bs ih =>
    cases h with
    | cons r t =>
      intro y hy
      rcases List.mem_cons.mp hy with z | z
      · exact ⟨b, by rw [z]; exact r⟩
      · exact ih t y z
def rCntB (K : PySem.W.Frag) : V → List V → Hp → VK → Prop := fun x xs H Q => ∃ (p : Addr) (bs : List Bool) (k : Bool), x = .ref p ∧ xs = [.bl k] ∧ SqL K H p (bs.map V.bl) ∧ Q (.int (bs.count k : Nat)) H
theorem mt_countB {X : Cx} : MtR X "list.count" (rCntB X.K) := by
  intro pins s σ H x xs v us Q I rx rxs h
  obtain ⟨p, bs, k, rfl, rfl, hs, q⟩ := h
  cases rx
  obtain ⟨u, rfl, ru⟩ := rxs.one
  have eu : u = .bool k := ru
  subst eu
  obtain ⟨its, rv, ⟨⟨cls, dd, data, sl⟩, n, ho, hc, hdn, hd⟩, hlen⟩ := I.list hs
  simp only at hc hd
  subst hc hd
  refine call_meets PySem.F.slot_list_count ⟨_, ho, rfl⟩ PySem.F.entry_list_count (PySem.F.args_list_count_2 _ _)
    (SeqAt.list_countAt p its.toArray n dd sl (.bool k) (eqb k)) ⟨ho, fun y hy => ?_, ?_⟩
  · obtain ⟨b, rfl⟩ := vals_bl rv y (by simpa using hy)
    exact SeqAt.EqAt.bool_bool b k
  have ec : its.toArray.toList.countP (eqb k) = bs.count k := eqb_count rv
  refine ⟨.int (bs.count k : Nat), H, I.tok _, ⟨s.toks, ?_⟩, q⟩
  show Value.int ((its.toArray.toList.countP (eqb k) : Nat) : Int) s.toks = Value.int ((bs.count k : Nat) : Int) s.toks
  rw [ec]
end KB

namespace KB
open PySem L2 HT

/-- what isinstance finds of a NoAsking -/
structure NmR (K : PySem.W.Frag) (mg : Str → Option Value) (CN b3 NE : Addr) : Prop where
  mn : mg "NoAsking" = some (.ref CN)
  m3 : mg "NoCarry" = some (.ref b3)
  ne : mg "NextError" = some (.ref NE)
  vv : mg "ValueError" = none
  c : ExcC K CN
  te : PySem.W.exmOne K (.ref CN) (.ref NE) = some true
  k3 : PySem.W.kitOne K (.ref CN) (.ref b3) = some false
  kn : PySem.W.kitOne K (.ref CN) (.ref CN) = some true
  kv : PySem.W.kitOne K (.ref CN) (.type "ValueError") = some true
theorem refX {a : Addr} : ∀ u, RelV (.ref a) u → u = .ref a := fun u h => h
section
variable {P : Program} {w : World} {K : PySem.W.Frag} {mg : Str → Option Value} {base : Heap} {CN b3 NE : Addr}
/-! ### _law_refused -/
def spRef : Sp := fun vs H Q _ => ∃ (p : Addr) (es : List TEr) (us : List V) (f : Str), vs = [.ref p, .str f] ∧ TBkAt H es us p ∧ (∀ e ∈ es, okL e.2.2 ∧ pcnt e.2.2 ≤ 11) ∧ (es.map (·.1)).Nodup ∧ (∀ e ∈ es, e.1 ≠ f) ∧ ∀ H', Same H H' → Q (.bl true) H'
abbrev s_law_refused : Stmt := top 39
theorem scLrefused : FnScope ["turned", "f", "caught", "e"] ["turned", "f"] (defScope s_law_refused) := ⟨rfl, rfl, rfl, by decide +kernel, rfl, by decide +kernel, by decide +kernel⟩
theorem ok_refused (T : Txt K mg) (N : NmR K mg CN b3 NE) {f f1 : Addr} {fd d1 : FuncData} (F : Fun K "_law_refused" "_law_refused" s_law_refused f fd) (Gnot : FnOk P w K mg base (L2.CX P w) 4 f1 d1 ["turned", "f"] (spNot CN)) (Rnot : Ref K mg "not_carried_at" f1 d1 ["turned", "f"]) :
    FnOk P w K mg base CX0 5 f fd ["turned", "f"] spRef := by
  refine F.ok scLrefused (fun vs H Q E h => ?_) (fun cdv A outer s H vs Q E hr h => ?_)
  · obtain ⟨p, es, us, f, rfl, _⟩ := h
    rfl
  obtain ⟨p, es, us, nm, rfl, hB, hok, hnd, hno, q⟩ := h
  refine ⟨_, (pss_cons (ps_set (i := 2) scLrefused.nd rfl (Or.inl rfl) pe_non)
    (Evl.pss_cut (ps_try_keep (i := 3) (tb := fun W => tDrop (tCallS (spNot CN) (WE W) (tCons (tVar 0) (tCons (tVar 1) tNil)))) (ts := fun _ _ _ => tAsg (tVar 3) (gName 2)) (Wout := fun _ _ _ _ => False) rfl rfl rfl scLrefused.nd rfl rfl ⟨rfl, by decide, Or.inl N.ne⟩ takes0
          (fun W pn xe tk _ => pss_one (ps_expr (by exact (pe_callS Gnot (hr.mono (by omega)) rfl Rnot.m Rnot.k Rnot.b (fun σ => passAt tk σ) (pa_cons (pv 0) (pa_cons (pv 1) pa_nil))))))
          (fun a oe cls d pn hz hf => pss_one (ps_set (i := 2) scLrefused.nd rfl (Or.inl rfl) (by exact (pv 3)))))
    (pss_one (ps_ret (pe_and (pe_callB call_isX (by rfl) T.m_isinstance (by decide +kernel) (pa_cons (pv 2) (pa_cons (pe_glob (v := .ref CN) rfl N.mn rfl) pa_nil))) (pe_and (pe_callB call_isX (by rfl) T.m_isinstance (by decide +kernel) (pa_cons (pv 2) (pa_cons (pe_bltn (v := .ty "ValueError") rfl N.vv (by decide +kernel) rfl) pa_nil))) (pe_one (pe_not (pe_callB call_isX (by rfl) T.m_isinstance (by decide +kernel) (pa_cons (pv 2) (pa_cons (pe_glob (v := .ref b3) rfl N.m3 rfl) pa_nil))))))))))), ?_⟩
  refine ⟨fun σ' H' => Same H H' ∧ ∃ (a : Addr), σ' = [some (.ref p), some (.str nm), some (.ref a), none] ∧ H' a = some (KeptX (.ref CN) none a), ?_, ?_⟩
  · refine ⟨_, rfl, _, rfl, p, es, us, nm, rfl, hB, hok, hnd, fun _ => ?_, fun e he hn => absurd hn (hno e he)⟩
    refine ⟨true, N.te, fun _ a ha => ⟨_, rfl, ?_⟩, fun z => nomatch z⟩
    exact ⟨same_new ha _, a, rfl, upd_same⟩
  rintro σ1 H1 ⟨s1, a, rfl, ha⟩
  refine ⟨_, rfl, a, CN, .ref CN, _, true, rfl, N.c, ha, refX, N.kn, _, rfl, ?_⟩
  refine iteT ⟨_, rfl, a, CN, .ty "ValueError", _, true, rfl, N.c, ha, fun u h => h, N.kv, _, rfl, ?_⟩
  refine iteT ⟨_, rfl, a, CN, .ref b3, _, false, rfl, N.c, ha, refX, N.k3, _, rfl, ?_⟩
  exact q _ s1
end
end KB

namespace KB
open PySem PySem.Spec PyProof.Rows L2 HT Ob

/-! ### t < u of (text, numbers ..), the texts the same -/
theorem lex_is {e r : Nat → Bool} : ∀ {ns ms : List Int} {i : Nat} {z : Bool}, (∀ (j : Nat) (a b : Int), ns[j]? = some a → ms[j]? = some b → e (i + j) = decide (a = b) ∧ r (i + j) = decide (a < b)) → z = decide (ns.length < ms.length) → lexAt e r z i (min ns.length ms.length) = ltL ns ms
  | [], [], i, z, _, hz => by
    rw [hz]
    rfl
  | [], _ :: _, i, z, _, hz => by
    rw [hz]
    show lexAt _ _ _ _ (min 0 _) = true
    rw [Nat.zero_min, lexAt_zero]
    exact decide_eq_true (Nat.zero_lt_succ _)
  | _ :: _, [], i, z, _, hz => by
    rw [hz]
    show lexAt _ _ _ _ (min _ 0) = false
    rw [Nat.min_zero, lexAt_zero]
    exact decide_eq_false (Nat.not_lt_zero _)
  | a :: ns, b :: ms, i, z, h, hz => by
    have h0 := h 0 a b rfl rfl
    rw [Nat.add_zero] at h0
    have ih := lex_is (ns := ns) (ms := ms) (i := i + 1) (z := z) (fun j c d hc hd => by
      have := h (j + 1) c d hc hd
      rw [Nat.add_comm j 1, ← Nat.add_assoc] at this
      exact this) (by rw [hz, List.length_cons, List.length_cons]; exact decide_eq_decide.mpr (by omega))
    rw [List.length_cons, List.length_cons, Nat.succ_min_succ, lexAt_succ, h0.1, h0.2, ih]
    show _ = (decide (a < b) || (decide (a = b) && ltL ns ms))
    by_cases c : a = b
    · subst c
      simp
    · rw [decide_eq_false c]
      simp
def rLtM (K : PySem.W.Frag) : R2 := fun x y H Q => ∃ a b f ns ms, x = .ref a ∧ y = .ref b ∧ SqT K H a (V.str f :: ns.map V.int) ∧ SqT K H b (V.str f :: ms.map V.int) ∧ Q (.bl (ltL ns ms)) H
def eM (ns ms : List Int) : Nat → Bool
  | 0 => true
  | j + 1 => match ns[j]?, ms[j]? with
    | some a, some b => decide (a = b)
    | _, _ => false
def rM (ns ms : List Int) : Nat → Bool
  | 0 => false
  | j + 1 => match ns[j]?, ms[j]? with
    | some a, some b => decide (a < b)
    | _, _ => false
theorem op_ltM {X : Cx} (hu : X.A.units < cLine) : OpR X (compareOp .Lt) (rLtM X.K) := by
  intro pins s σ H x y v u Q I rx ry h
  obtain ⟨a, b, f, ns, ms, rfl, rfl, ha, hb, q⟩ := h
  cases rx
  cases ry
  obtain ⟨its, r1, p1, _⟩ := I.tuple ha
  obtain ⟨its2, r2, p2, _⟩ := I.tuple hb
  cases r1 with
  | cons rf1 r1 =>
    cases r2 with
    | cons rf2 r2 =>
      rename_i u1 its1 u2 its2
      obtain ⟨t1, rfl⟩ := rf1
      obtain ⟨t2, rfl⟩ := rf2
      have l1 := r1.length
      have l2 := r2.length
      rw [List.length_map] at l1 l2
      have i1 := intsAre_of r1
      have i2 := intsAre_of r2
      have get1 : ∀ j (h1 : j < its1.length), ∃ z t, ns[j]? = some z ∧ its1[j]? = some (.int z t) := fun j h1 => by
        have hj : j < ns.length := by omega
        obtain ⟨t, ht⟩ := i1.get j ns[j] (List.getElem?_eq_getElem hj)
        exact ⟨ns[j], t, List.getElem?_eq_getElem hj, ht⟩
      have get2 : ∀ j (h1 : j < its2.length), ∃ z t, ms[j]? = some z ∧ its2[j]? = some (.int z t) := fun j h1 => by
        have hj : j < ms.length := by omega
        obtain ⟨t, ht⟩ := i2.get j ms[j] (List.getElem?_eq_getElem hj)
        exact ⟨ms[j], t, List.getElem?_eq_getElem hj, ht⟩
      have el : lexAt (eM ns ms) (rM ns ms) (decide ((Value.str f t1 :: its1).toArray.size < (Value.str f t2 :: its2).toArray.size)) 0 (min (Value.str f t1 :: its1).toArray.size (Value.str f t2 :: its2).toArray.size) = ltL ns ms := by
        rw [List.size_toArray, List.size_toArray, List.length_cons, List.length_cons, Nat.succ_min_succ, lexAt_succ, if_pos (show eM ns ms 0 = true from rfl), ← l1, ← l2]
        refine lex_is (fun j a b ha hb => ?_) (decide_eq_decide.mpr (by omega))
        rw [Nat.zero_add, Nat.add_comm 1 j]
        unfold eM rM
        dsimp only
        rw [ha, hb]
        exact ⟨rfl, rfl⟩
      have main := RcOp.tuples_lt (A := X.A) (s := s) (e := eM ns ms) (r := rM ns ms) p1 p2 hu (fun j h1 h2 => ?_) (fun j h1 h2 hf => ?_)
      · rw [el] at main
        exact main _ _ _ _ ⟨.bl (ltL ns ms), H, I, rfl, q⟩
      · cases j with
        | zero =>
          have := SeqAt.EqAt.str_str (A := X.A.in1) (s := s) f t1 f t2
          rw [beq_self_eq_true] at this
          exact this
        | succ j =>
          have h1 : j + 1 < (Value.str f t1 :: its1).toArray.size := h1
          have h2 : j + 1 < (Value.str f t2 :: its2).toArray.size := h2
          rw [List.size_toArray, List.length_cons] at h1 h2
          obtain ⟨z, tz, g1, g2⟩ := get1 j (by omega)
          obtain ⟨y, ty, g3, g4⟩ := get2 j (by omega)
          have e1 : (Value.str f t1 :: its1).toArray[j + 1] = .int z tz := by
            have := (List.getElem?_eq_some_iff.mp g2).2
            simpa using this
          have e2 : (Value.str f t2 :: its2).toArray[j + 1] = .int y ty := by
            have := (List.getElem?_eq_some_iff.mp g4).2
            simpa using this
          rw [e1, e2]
          have e3 : eM ns ms (j + 1) = (z == y) := by
            unfold eM
            dsimp only
            rw [g1, g3]
            rfl
          rw [e3]
          exact SeqAt.EqAt.int_int z tz y ty
      · cases j with
        | zero => cases hf
        | succ j =>
          have h1 : j + 1 < (Value.str f t1 :: its1).toArray.size := h1
          have h2 : j + 1 < (Value.str f t2 :: its2).toArray.size := h2
          rw [List.size_toArray, List.length_cons] at h1 h2
          obtain ⟨z, tz, g1, g2⟩ := get1 j (by omega)
          obtain ⟨y, ty, g3, g4⟩ := get2 j (by omega)
          have e1 : (Value.str f t1 :: its1).toArray[j + 1] = .int z tz := by
            have := (List.getElem?_eq_some_iff.mp g2).2
            simpa using this
          have e2 : (Value.str f t2 :: its2).toArray[j + 1] = .int y ty := by
            have := (List.getElem?_eq_some_iff.mp g4).2
            simpa using this
          rw [e1, e2]
          have e3 : rM ns ms (j + 1) = decide (z < y) := by
            unfold rM
            dsimp only
            rw [g1, g3]
          rw [e3]
          exact RcOp.lt_int z y tz ty
end KB

namespace KB
open PySem L2 HT

theorem passX {X : Cx} {P : Program} {w : World} : Passes (L2.CX P w) X E0 := fun _ _ _ _ _ _ _ h => by
  obtain ⟨_, _, _, _, _, _, _, _, _, _, _, _, z⟩ := h
  exact z.elim

theorem lk_kP {p : Pt} (h : kP p) {k : Int × Pt} (m : k ∈ lkids p) : kP k.2 := by
  cases p with
  | give j t => cases m
  | ask f ts j => cases m
  | tell x t p => rw [List.mem_singleton.mp m]; exact h.2.2
  | lett x t p => rw [List.mem_singleton.mp m]; exact h.2.2
  | iff t p q =>
    rcases List.mem_cons.mp m with z | z
    · rw [z]; exact h.2.1
    · rw [List.mem_singleton.mp z]; exact h.2.2
  | post j x p q =>
    rcases List.mem_cons.mp m with z | z
    · rw [z]; exact h.2.2.1
    · rw [List.mem_singleton.mp z]; exact h.2.2.2
theorem allP_kP : ∀ {p : Pt}, kP p → ∀ x ∈ allP p, kP x.2 ∧ pcnt x.2 ≤ pcnt p ∧ x.1.length < pcnt p := by
  have go : ∀ (m : Nat) (p : Pt), pcnt p ≤ m → kP p → ∀ x ∈ allP p, kP x.2 ∧ pcnt x.2 ≤ pcnt p ∧ x.1.length < pcnt p := by
    intro m
    induction m with
    | zero => intro p h; have := pc_pos p; omega
    | succ m ih =>
      intro p hp hk x hx
      rw [allP_mk] at hx
      rcases List.mem_cons.mp hx with z | z
      · subst z
        exact ⟨hk, Nat.le_refl _, pc_pos p⟩
      · obtain ⟨l, hl, hm⟩ := List.mem_flatten.mp z
        obtain ⟨kid, hkid, rfl⟩ := List.mem_map.mp hl
        obtain ⟨e, he, rfl⟩ := List.mem_map.mp hm
        have h1 := lk_cnt hkid
        obtain ⟨a, b, c⟩ := ih kid.2 (by omega) (lk_kP hk hkid) e he
        exact ⟨a, by show pcnt e.2 ≤ _; omega, by show e.1.length + 1 < _; omega⟩
  intro p hk
  exact go _ p (Nat.le_refl _) hk
/-- an entry is laid, or a post's own ask -/
theorem allP_okL : ∀ {p : Pt}, okL p → ∀ e ∈ allP p, okL e.2 ∨ ∃ j, askL j e.2
  | .give j t, h, e, he => by
    rw [List.mem_singleton.mp he]
    exact .inl h
  | .ask f ts j, h, e, he => by
    rw [List.mem_singleton.mp he]
    exact .inl h
  | .tell x t p, h, e, he => by
    rcases List.mem_cons.mp he with z | z
    · rw [z]
      exact .inl h
    · rw [List.append_nil] at z
      obtain ⟨v, hv, rfl⟩ := List.mem_map.mp z
      exact allP_okL h.2.2 v hv
  | .lett x t p, h, e, he => by
    rcases List.mem_cons.mp he with z | z
    · rw [z]
      exact .inl h
    · rw [List.append_nil] at z
      obtain ⟨v, hv, rfl⟩ := List.mem_map.mp z
      exact allP_okL h.2.2 v hv
  | .iff t p q, h, e, he => by
    rcases List.mem_cons.mp he with z | z
    · rw [z]
      exact .inl h
    · rw [List.append_nil] at z
      rcases List.mem_append.mp z with z | z
      · obtain ⟨v, hv, rfl⟩ := List.mem_map.mp z
        exact allP_okL h.2.1 v hv
      · obtain ⟨v, hv, rfl⟩ := List.mem_map.mp z
        exact allP_okL h.2.2 v hv
  | .post j x p q, h, e, he => by
    rcases List.mem_cons.mp he with z | z
    · rw [z]
      exact .inl h
    · rw [List.append_nil] at z
      rcases List.mem_append.mp z with z | z
      · obtain ⟨v, hv, rfl⟩ := List.mem_map.mp z
        exact allP_okL h.2.2.1 v hv
      · obtain ⟨v, hv, rfl⟩ := List.mem_map.mp z
        have hq := h.2.2.2
        cases q with
        | ask g ts i =>
          rw [List.mem_singleton.mp hv]
          exact .inr ⟨j, hq⟩
        | _ => exact hq.elim
theorem TBkAt.tk {H H' : Hp} (t : TK H H') {es : List TEr} {vs : List V} {p : Addr} (h : TBkAt H es vs p) : TBkAt H' es vs p := ⟨t _ _ h.1, h.2.imp fun _ _ z => z.tk t⟩
theorem head_post {H : Hp} {p : Pt} {a : Addr} (h : PAt H p a) : ∃ (x : Str) (r : List V), H a = some (.tup (.str x :: r)) ∧ (x = "post" → ∃ j y q t, p = .post j y q t) ∧ (x ≠ "post" → ∀ f, badL f p = false) := by
  cases p with
  | give j t => exact let ⟨b, h1, _⟩ := h; ⟨_, _, h1, fun z => absurd z (by decide), fun _ _ => rfl⟩
  | ask f ts j => exact let ⟨q, vs, h1, _⟩ := h; ⟨_, _, h1, fun z => absurd z (by decide), fun _ _ => rfl⟩
  | tell x t p => exact let ⟨b, c, h1, _⟩ := h; ⟨_, _, h1, fun z => absurd z (by decide), fun _ _ => rfl⟩
  | lett x t p => exact let ⟨b, c, h1, _⟩ := h; ⟨_, _, h1, fun z => absurd z (by decide), fun _ _ => rfl⟩
  | iff t p q => exact let ⟨b, c, d, h1, _⟩ := h; ⟨_, _, h1, fun z => absurd z (by decide), fun _ _ => rfl⟩
  | post j x p q => exact let ⟨c, d, h1, _⟩ := h; ⟨_, _, h1, fun _ => ⟨_, _, _, _, rfl⟩, fun z => absurd rfl z⟩
def pdPl (x : Str × List Int) : PyData := .tuple (.str x.1 :: x.2.map PyData.int)
theorem shaped_pl {x : Str × List Int} (h : isW x.1 = true) : SeqAt.shaped (pdPl x) = true := by
  refine shaped_of (layAll fun d hd => ?_) ?_
  · rcases List.mem_cons.mp hd with z | z
    · rw [z]
      exact lay_str h
    · obtain ⟨k, _, rfl⟩ := List.mem_map.mp z
      rfl
  · refine Nat.le_trans (depth_tup (m := 0) fun d hd => ?_) (by decide)
    rcases List.mem_cons.mp hd with z | z
    · rw [z]
      exact Nat.le_refl 0
    · obtain ⟨k, _, rfl⟩ := List.mem_map.mp z
      exact Nat.le_refl 0
def DueAt (H : Hp) (nm : Str) : Option (List Int) → V → Prop
  | none, v => v = .non
  | some l, v => ∃ a, v = .ref a ∧ H a = some (.tup (.str nm :: l.map V.int))
theorem DueAt.tk {H H' : Hp} (k : TK H H') {nm : Str} {d : Option (List Int)} {v : V} (h : DueAt H nm d v) : DueAt H' nm d v := by
  cases d with
  | none => exact h
  | some l => exact let ⟨a, e, g⟩ := h; ⟨a, e, k _ _ g⟩
def pdDue (nm : Str) : Option (List Int) → PyData
  | none => .none
  | some l => pdPl (nm, l)
theorem dp_due {K : PySem.W.Frag} {H : Hp} {nm : Str} {d : Option (List Int)} {v : V} (h : DueAt H nm d v) : Dp K H v (pdDue nm d) := by
  cases d with
  | none =>
    have h : v = .non := h
    rw [h]
    exact .non
  | some l =>
    obtain ⟨a, rfl, g⟩ := h
    exact .tup (SqT.of g) (.cons (.str _) (dp_ints _))
theorem shaped_due {nm : Str} (h : isW nm = true) (d : Option (List Int)) : SeqAt.shaped (pdDue nm d) = true := by
  cases d with
  | none => rfl
  | some l => exact shaped_pl h
theorem nd_one : ∀ {es : List TEr} {a b : TEr}, (es.map (·.1)).Nodup → a ∈ es → b ∈ es → a.1 = b.1 → a = b
  | e :: r, a, b, h, ha, hb, z => by
    rw [List.map_cons, List.nodup_cons] at h
    rcases List.mem_cons.mp ha with ha | ha <;> rcases List.mem_cons.mp hb with hb | hb
    · rw [ha, hb]
    · exact absurd (List.mem_map.mpr ⟨b, hb, by rw [← z, ha]⟩) h.1
    · exact absurd (List.mem_map.mpr ⟨a, ha, by rw [z, hb]⟩) h.1
    · exact nd_one h.2 ha hb z
def gB (nm : Str) (e : List Int × Pt) : Option (List Int) := if badL nm e.2 then some (e.1 ++ [1]) else none
def dueS (nm : Str) (l : List (List Int × Pt)) : List (List Int) := l.filterMap (gB nm)
theorem dueS_take {nm : Str} {l : List (List Int × Pt)} {i : Nat} {e : List Int × Pt} (h : l[i]? = some e) : dueS nm (l.take (i + 1)) = dueS nm (l.take i) ++ (gB nm e).toList := by
  obtain ⟨hi, he⟩ := List.getElem?_eq_some_iff.mp h
  unfold dueS
  rw [List.take_succ_eq_append_getElem hi, he, List.filterMap_append]
  congr 1
section
variable {P : Program} {w : World} {K : PySem.W.Frag} {mg : Str → Option Value} {base : Heap} {CN b3 NE : Addr}
def spLaw (K : PySem.W.Frag) : Sp := fun vs H Q _ => ∃ (a : Addr) (ns : List Int), vs = [.ref a] ∧ SqL K H a (ns.map V.int) ∧ ns.length ≤ 63 ∧ ∀ H', Q (.bl true) H'
abbrev slaw : Stmt := top 40
theorem sclaw : FnScope ["script", "turned", "name", "names", "body", "due", "place", "part", "found"] ["script"] (defScope slaw) := ⟨rfl, rfl, rfl, by decide +kernel, rfl, by decide +kernel, by decide +kernel⟩
theorem ok_law (T : Txt K mg) {f f1 f2 f3 f4 f5 : Addr} {fd d1 d2 d3 d4 d5 : FuncData} (F : Fun K "law" "law" slaw f fd) (G_law_laid_book : FnOk P w K mg base CX0 12 f1 d1 ["script", "start"] (spLBook K)) (R_law_laid_book : Ref K mg "_law_laid_book" f1 d1 ["script", "start"])
    (G_law_all : FnOk P w K mg base CX0 12 f2 d2 ["part", "place"] (spLAll 11)) (R_law_all : Ref K mg "_law_all" f2 d2 ["part", "place"]) (G_law_is_adding : FnOk P w K mg base CX0 52 f3 d3 ["part"] spLIsA) (R_law_is_adding : Ref K mg "_law_is_adding" f3 d3 ["part"])
    (Gnot_carried_at : FnOk P w K mg base (L2.CX P w) 4 f4 d4 ["turned", "f"] (spNot CN)) (Rnot_carried_at : Ref K mg "not_carried_at" f4 d4 ["turned", "f"]) (G_law_refused : FnOk P w K mg base CX0 5 f5 d5 ["turned", "f"] spRef) (R_law_refused : Ref K mg "_law_refused" f5 d5 ["turned", "f"]) :
    FnOk P w K mg base CX0 53 f fd ["script"] (spLaw K) := by
  refine F.ok sclaw (fun vs H Q E h => ?_) (fun cdv A outer s H vs Q E hr h => ?_)
  · obtain ⟨sc, ns, rfl, _⟩ := h
    rfl
  obtain ⟨sc, ns, rfl, hS, _, q⟩ := h
  refine ⟨_, (pss_cons (ps_set (i := 1) sclaw.nd rfl (Or.inl rfl) (pe_call G_law_laid_book (hr.mono (by omega)) rfl R_law_laid_book.m R_law_laid_book.k R_law_laid_book.b .nil pass0 (pa_cons (pv 0) (pa_cons pe_int pa_nil))))
    (pss_cons (ps_for PassesOwn.never rfl (pi_tup (pv 1)) (pg_tup rfl (pgs_cons (pg_name (i := 2) sclaw.nd rfl (Or.inl rfl)) (pgs_cons (pg_name (i := 3) sclaw.nd rfl (Or.inl rfl)) (pgs_cons (pg_name (i := 4) sclaw.nd rfl (Or.inl rfl)) pgs_nil)))) (pss_cons (ps_set (i := 5) sclaw.nd rfl (Or.inl rfl) pe_non)
    (pss_cons (ps_for PassesOwn.never rfl (pi_list (pe_call G_law_all (hr.mono (by omega)) rfl R_law_all.m R_law_all.k R_law_all.b .nil pass0 (pa_cons (pv 4) (pa_cons (pe_tup (pa_cons (pv 2) pa_nil)) pa_nil)))) (pg_tup rfl (pgs_cons (pg_name (i := 6) sclaw.nd rfl (Or.inl rfl)) (pgs_cons (pg_name (i := 7) sclaw.nd rfl (Or.inl rfl)) pgs_nil))) (pss_one (ps_if (PW.pt (pw_and (pt_cmpR op_eq (pe_ix ix_tup (pv 7) pe_int (fun _ _ => rfl)) pe_str (nomark _)) (pw_and (pt_cmpR op_eq (pe_ix ix_tup (pe_ix ix_tup (pv 7) pe_int (fun _ _ => rfl)) pe_int (fun _ _ => rfl)) (pv 2) (nomark _)) (pw_and1 (pt_not (pt_val (pe_call G_law_is_adding (hr.mono (by omega)) rfl R_law_is_adding.m R_law_is_adding.k R_law_is_adding.b .nil pass0 (pa_cons (pv 7) pa_nil)))))))) (pss_one (ps_if (PW.pt (pw_or (pt_cmpR op_isN (pv 5) pe_non (nomark _)) (pw_or1 (pt_cmpR (op_ltM hr.units0) (pe_op op_catA (pv 6) (pe_tup (pa_cons pe_int pa_nil))) (pv 5) (nomark _))))) (pss_one (ps_set (i := 5) sclaw.nd rfl (Or.inl rfl) (pe_op op_catA (pv 6) (pe_tup (pa_cons pe_int pa_nil))))) pss_nil)) pss_nil)))
    (pss_cons (ps_set (i := 8) sclaw.nd rfl (Or.inl rfl) (pe_call Gnot_carried_at (hr.mono (by omega)) rfl Rnot_carried_at.m Rnot_carried_at.k Rnot_carried_at.b .nil passX (pa_cons (pv 1) (pa_cons (pv 2) pa_nil))))
    (pss_one (ps_if (PW.pt (pw_or (pt_cmpR (op_neD hr.units) (pv 8) (pv 5) (nomark _)) (pw_or1 (PW.pt (pw_and (pt_cmpR op_notN (pv 8) pe_non (nomark _)) (pw_and1 (pt_not (pt_val (pe_callB call_isi (by rfl) T.m_isinstance (by decide +kernel) (pa_cons (pv 8) (pa_cons (pe_bltn (v := .ty "tuple") rfl T.m_tuple (by decide +kernel) rfl) pa_nil))))))))))) (pss_one (ps_ret pe_bl)) pss_nil))))))
    (pss_one (ps_ret (pe_call G_law_refused (hr.mono (by omega)) rfl R_law_refused.m R_law_refused.k R_law_refused.b .nil pass0 (pa_cons (pv 1) (pa_cons pe_str pa_nil))))))), ?_⟩
  refine ⟨_, rfl, sc, ns, 1, rfl, hS, by decide, by decide, fun p es us H1 s1 hB hG => ?_⟩
  refine ⟨_, rfl, p, rfl, ⟨_, SqT.of hB.1⟩, for_tup (xs := us) (fun i σ H' => ∃ o2 o3 o4 o5 o6 o7 o8, σ = [some (.ref sc), some (.ref p), o2, o3, o4, o5, o6, o7, o8] ∧ Same H1 H') ⟨_, _, _, _, _, _, _, rfl, Same.refl _⟩ ?_ ?_ ?_⟩
  · rintro i σ H' _ ⟨_, _, _, _, _, _, _, rfl, sA⟩
    exact SqT.of (sA _ _ hB.1)
  · rintro i x σ H2 hx ⟨o2, o3, o4, o5, o6, o7, o8, rfl, s2⟩
    obtain ⟨⟨nm, nms, body⟩, he, qa, r, b, rfl, g1, g2, g3⟩ := hB.2.get hx
    have hee := mem_of_get he
    obtain ⟨hw, hws, hokL, hcn⟩ := hG.er _ hee
    have hcn : pcnt body ≤ 11 := hcn
    have hokL : okL body := hokL
    have hw : isW nm = true := hw
    refine ⟨qa, _, rfl, SqT.of (s2 _ _ g1), rfl, _, _, rfl, _, _, rfl, _, _, rfl, rfl, ?_⟩
    refine ⟨_, rfl, _, rfl, sz (by show 1 ≤ 100000; decide), fun p0 hp0 => ?_⟩
    have s3 := same_new hp0 (.tup [.str nm])
    refine ⟨b, p0, body, [.str nm], rfl, ?_⟩
    refine ⟨PAt.tk (tk_same s3) (PAt.tk (tk_same s2) g3), hcn, by omega, upd_same, by show 1 + 10 ≤ 2000; decide, fun al H4 its hal s4 h4 k4 => ?_⟩
    have s24 := s3.trans s4
    have hal2 := k4.len
    rw [allP_len] at hal2
    refine ⟨al, rfl, ⟨_, SqL.of h4⟩, for_list (K := K) (a := al) (xs := its) (fun j σ H' => ∃ dv d o6 o7, σ = [some (.ref sc), some (.ref p), some (.str nm), some (.ref r), some (.ref b), some dv, o6, o7, o8] ∧ Same H4 H' ∧ DueAt H' nm d dv ∧ MinOf (dueS nm ((allP body).take j)) d) ?_ ?_ ?_ ?_⟩
    · exact ⟨_, none, _, _, rfl, Same.refl _, rfl, rfl⟩
    · rintro j σ H' _ ⟨dv, d, o6, o7, rfl, sB, _⟩
      exact SqL.of (sB _ _ h4)
    · rintro j x σ H5 hx ⟨dv, d, o6, o7, rfl, s5, hdue, hmin⟩
      obtain ⟨m, hm, q2, r2, b2, rfl, g4, g5, g6⟩ := k4.get hx
      have hmm := mem_of_get hm
      obtain ⟨m1, m2, m3⟩ := allP_kP (okL_k hokL) m hmm
      have g6 := g6.tk (tk_same s5)
      have g5 := s5 _ _ g5
      refine ⟨q2, _, rfl, SqT.of (s5 _ _ g4), rfl, _, _, rfl, _, _, rfl, rfl, ?_⟩
      have skip : gB nm m = none → ∀ o6' o7' H6, Same H5 H6 → ∃ dv' d' o6 o7, ([some (.ref sc), some (.ref p), some (.str nm), some (.ref r), some (.ref b), some dv, o6', o7', o8] : St) = [some (.ref sc), some (.ref p), some (.str nm), some (.ref r), some (.ref b), some dv', o6, o7, o8] ∧ Same H4 H6 ∧ DueAt H6 nm d' dv' ∧ MinOf (dueS nm ((allP body).take (j + 1))) d' := fun hg o6' o7' H6 s6 => ⟨_, _, _, _, rfl, s5.trans s6, hdue.tk (tk_same s6), by
        rw [dueS_take hm, hg]
        show MinOf (_ ++ []) _
        rw [List.append_nil]
        exact hmin⟩
      obtain ⟨hx', rr, hh, hpost, hno⟩ := head_post g6
      refine ⟨_, rfl, b2, _, _, _, rfl, rfl, SqT.of hh, at0, rfl, _, rfl, ?_⟩
      by_cases hp : hx' = "post"
      · obtain ⟨pj, px, pq, pt, hpe⟩ := hpost hp
        obtain ⟨mpl, mpt⟩ := m
        have hpe : mpt = .post pj px pq pt := hpe
        subst hpe
        refine itT (by rw [hp]; rfl) ?_
        have hok2 : okL (.post pj px pq pt) := (allP_okL hokL _ hmm).elim id fun ⟨_, z⟩ => z.elim
        have hq := hok2.2.2.2
        cases pt with
        | ask g ts k =>
          obtain ⟨c1, d1, h1, h2, qq, vq, h3, h5, h6⟩ := id g6
          have h3 : H5 d1 = some (.tup [.str "ask", .str g, .ref qq, .str k]) := h3
          refine ⟨_, rfl, b2, _, _, _, rfl, rfl, SqT.of h1, at4, d1, _, _, _, rfl, rfl, SqT.of h3, at1, _, rfl, rfl, _, rfl, ?_⟩
          by_cases hg : g = nm
          · refine itT (decide_eq_true (congrArg V.str hg)) ?_
            refine ⟨_, rfl, b2, pj, px, pq, .ask g ts k, rfl, g6, m1, fun H6 s6 => ?_⟩
            refine ⟨_, rfl, ?_⟩
            have hg2 : gB nm (mpl, .post pj px pq (.ask g ts k)) = if isAddP px pq = true then none else some (mpl ++ [1]) := by
              show (if (decide (g = nm) && !isAddP px pq) = true then some (mpl ++ [1]) else none) = _
              rw [decide_eq_true hg]
              cases isAddP px pq <;> rfl
            cases hadd : isAddP px pq with
            | true =>
              rw [hadd] at hg2
              exact iteF (skip hg2 _ _ _ s6)
            | false =>
              rw [hadd] at hg2
              have hg2 : gB nm (mpl, .post pj px pq (.ask g ts k)) = some (mpl ++ [1]) := hg2
              refine iteT ?_
              have hml : mpl.length < 11 := by
                have m3 : mpl.length < pcnt body := m3
                omega
              have g5 := s6 _ _ g5
              have put : MinOf (dueS nm ((allP body).take j) ++ [mpl ++ [1]]) (some (mpl ++ [1])) → MinOf (dueS nm ((allP body).take (j + 1))) (some (mpl ++ [1])) := fun z => by
                rw [dueS_take hm, hg2]
                exact z
              have done : ∀ (H7 : Hp) (p9 : Addr), Same H6 H7 → H7 p9 = some (.tup ((.str nm :: mpl.map V.int) ++ [.int 1])) → MinOf (dueS nm ((allP body).take j) ++ [mpl ++ [1]]) (some (mpl ++ [1])) → ∃ dv' d' o6 o7, ([some (.ref sc), some (.ref p), some (.str nm), some (.ref r), some (.ref b), some (.ref p9), some (.ref r2), some (.ref b2), o8] : St) = [some (.ref sc), some (.ref p), some (.str nm), some (.ref r), some (.ref b), some dv', o6, o7, o8] ∧ Same H4 H7 ∧ DueAt H7 nm d' dv' ∧ MinOf (dueS nm ((allP body).take (j + 1))) d' := fun H7 p9 s7 h9 z => ⟨_, some (mpl ++ [1]), _, _, rfl, s5.trans (s6.trans s7), ⟨p9, rfl, by rw [h9, List.map_append]; rfl⟩, put z⟩
              cases d with
              | none =>
                have hdue : dv = .non := hdue
                subst hdue
                have hmin : dueS nm ((allP body).take j) = [] := hmin
                refine ⟨_, rfl, rfl, _, rfl, itT rfl ?_⟩
                refine iteT ⟨_, rfl, sz (by show 1 ≤ 100000; decide), fun p8 hp8 => ?_⟩
                have s8 := same_new hp8 (.tup [.int 1])
                refine catA_of (s8 _ _ g5) upd_same (by show _ ≤ 100000; simp; omega) fun p9 H9 s9 h9 => done H9 p9 (s8.trans s9) h9 ?_
                rw [hmin]
                exact MinOf.first
              | some l =>
                obtain ⟨da, rfl, hda⟩ := hdue
                have hda := s6 _ _ hda
                refine ⟨_, rfl, rfl, _, rfl, itF rfl ?_⟩
                refine ⟨_, rfl, sz (by show 1 ≤ 100000; decide), fun p8 hp8 => ?_⟩
                have s8 := same_new hp8 (.tup [.int 1])
                refine catA_of (s8 _ _ g5) upd_same (by show _ ≤ 100000; simp; omega) fun p9 H9 s9 h9 => ?_
                have h9' : H9 p9 = some (.tup (.str nm :: (mpl ++ [1]).map V.int)) := by
                  rw [h9, List.map_append]
                  rfl
                have s89 := s8.trans s9
                refine ⟨_, rfl, p9, da, nm, mpl ++ [1], l, rfl, rfl, SqT.of h9', SqT.of (s89 _ _ hda), _, rfl, ?_⟩
                cases hlt : ltL (mpl ++ [1]) l with
                | true =>
                  refine iteT ⟨_, rfl, sz (by show 1 ≤ 100000; decide), fun p10 hp10 => ?_⟩
                  have s10 := same_new hp10 (.tup [.int 1])
                  refine catA_of (s10 _ _ (s89 _ _ g5)) upd_same (by show _ ≤ 100000; simp; omega) fun p11 H11 s11 h11 => done H11 p11 ((s89.trans s10).trans s11) h11 (hmin.less hlt)
                | false =>
                  refine iteF ⟨_, some l, _, _, rfl, (s5.trans s6).trans s89, ⟨da, rfl, s89 _ _ hda⟩, ?_⟩
                  rw [dueS_take hm, hg2]
                  exact hmin.keep hlt
          · refine itF (decide_eq_false fun z => hg (V.str.inj z)) ?_
            refine iteF (skip ?_ _ _ _ (Same.refl _))
            show (if (decide (g = nm) && !isAddP px pq) = true then some (mpl ++ [1]) else none) = none
            rw [decide_eq_false hg]
            rfl
        | _ => exact hq.elim
      · refine itF (decide_eq_false fun z => hp (V.str.inj z)) ?_
        exact iteF (skip (by unfold gB; rw [hno hp]; rfl) _ _ _ (Same.refl _))
    · rintro σ H5 ⟨dv, d, o6, o7, rfl, s5, hdue, hmin⟩
      have hd : d = firstBad nm body := by
        have e1 : dueS nm ((allP body).take its.length) = badP nm body := by
          rw [hal2, ← allP_len, List.take_length]
          exact badP_all hokL
        rw [e1] at hmin
        exact min_is hmin (least_bad body)
      have s25 := s24.trans s5
      have hB5 := TBkAt.tk (tk_same (s2.trans s25)) hB
      refine ⟨_, rfl, _, rfl, p, es, us, nm, rfl, hB5, fun e he => ⟨(hG.er e he).ok, (hG.er e he).cn⟩, hG.nd, fun z => absurd rfl (z _ hee), fun e he hne => ?_⟩
      have hee2 : e = (nm, nms, body) := nd_one hG.nd he hee hne
      subst hee2
      refine ⟨fun hf H6 s6 => ?_, fun pl hf a H6 s6 ha => ?_⟩
      · rw [hf] at hd
        subst hd
        have hdue : dv = .non := hdue
        subst hdue
        refine ⟨_, rfl, _, rfl, .none, .none, .non, .non, rfl, rfl, _, rfl, ?_⟩
        refine itF rfl ?_
        refine ⟨_, rfl, rfl, _, rfl, ?_⟩
        exact itF rfl (iteF ⟨_, _, _, _, _, _, _, rfl, s2.trans (s25.trans s6)⟩)
      · rw [hf] at hd
        subst hd
        obtain ⟨da, rfl, hda⟩ := hdue
        refine ⟨_, rfl, _, rfl, pdPl (nm, pl), pdPl (nm, pl), dp_due (d := some pl) ⟨a, rfl, ha⟩, dp_due (d := some pl) ⟨da, rfl, s6 _ _ hda⟩, shaped_pl hw, shaped_pl hw, _, rfl, ?_⟩
        refine itF (by rw [eqv_self (shaped_pl hw)]; rfl) ?_
        refine ⟨_, rfl, rfl, _, rfl, itT rfl ?_⟩
        refine ⟨_, rfl, .ref a, .ty "tuple", .type "tuple", .type "tuple", true, rfl, .ty "tuple", .base (.tup ha), kit_ty (by decide +kernel), _, rfl, ?_⟩
        exact iteF ⟨_, _, _, _, _, _, _, rfl, s2.trans (s25.trans s6)⟩
  · rintro σ H2 ⟨o2, o3, o4, o5, o6, o7, o8, rfl, s2⟩
    refine ⟨_, rfl, p, es, us, "zzzzq", rfl, TBkAt.tk (tk_same s2) hB, fun e he => ⟨(hG.er e he).ok, (hG.er e he).cn⟩, hG.nd, fun e he z => ?_, fun H3 s3 => q _⟩
    have hw := (hG.er e he).w
    rw [z] at hw
    revert hw
    decide +kernel
end
end KB

namespace KB
open PySem L2
theorem kit_ref {K : PySem.W.Frag} {D c : Addr} {b : Bool} (hc : PySem.W.isClsIn K c = true) (ht : PySem.W.typeIn K (.ref c) = some (.type "type")) (hs : PySem.W.subIn K (.ref D) (.ref c) = some b) (hm : PySem.W.subIn K (.ref c) (.ref c) = some true) : PySem.W.kitOne K (.ref D) (.ref c) = some b := by
  unfold PySem.W.kitOne
  by_cases h : D = c
  · subst h
    rw [hm] at hs
    have e : ((Value.ref D : Value) == .ref D) = true := beq_self_eq_true _
    rw [if_pos e]
    exact hs
  · have e : ¬ ((Value.ref D : Value) == .ref c) = true := fun z => h (Value.ref.inj (beq_iff_eq.mp z))
    rw [if_neg e]
    have e2 : ((PySem.W.clsIn K c).isSome && PySem.W.typeIn K (.ref c) == some (.type "type")) = true := by
      have h2' : (PySem.W.clsIn K c).isSome = true := hc
      rw [h2', ht] <;> rfl
    show (if ((PySem.W.clsIn K c).isSome && PySem.W.typeIn K (.ref c) == some (.type "type")) = true then PySem.W.subIn K (.ref D) (.ref c) else none) = some b
    rw [if_pos e2]
    exact hs
theorem kit_ve {K : PySem.W.Frag} {D : Addr} (hs : PySem.W.subIn K (.ref D) (.type "ValueError") = some true) : PySem.W.kitOne K (.ref D) (.type "ValueError") = some true := by
  unfold PySem.W.kitOne
  have e : ¬ ((Value.ref D : Value) == .type "ValueError") = true := fun z => by
    cases (beq_iff_eq.mp z)
  rw [if_neg e]
  have e2 : PySem.W.kitMeta "ValueError" = true := by decide +kernel
  show (if PySem.W.kitMeta "ValueError" = true then PySem.W.subIn K (.ref D) (.type "ValueError") else none) = some true
  rw [if_pos e2]
  exact hs
end KB

namespace KB
open PySem L2
theorem all_mk {l : PySem.W.OpenLaw} {w : World} {K : PySem.W.Frag} {h : Heap} {mg : Str → Option Value} {fa : Addr} (X : K.In h) (G : h.Ns mainGlobals mg) (hfa : mg "law" = some (.ref fa))
    {f1 f2 f3 f4 f5 f6 f7 f8 f9 f10 f11 f12 f13 f14 f15 f16 f17 f18 f19 f20 f21 f22 f23 f24 f25 f26 f27 f28 f29 CN tuSIMPLE_HEADS b3 NE : Addr}
    {od1 an1 od2 an2 od3 an3 od4 an4 od5 an5 od6 an6 od7 an7 od8 an8 od9 an9 od10 an10 od11 an11 od12 an12 od13 an13 od14 an14 od15 an15 od16 an16 od17 an17 od18 an18 od19 an19 od20 an20 od21 an21 od22 an22 od23 an23 od24 an24 od25 an25 od26 an26 od27 an27 od28 an28 od29 an29  : Option Addr}
    {sl1 sl2 sl3 sl4 sl5 sl6 sl7 sl8 sl9 sl10 sl11 sl12 sl13 sl14 sl15 sl16 sl17 sl18 sl19 sl20 sl21 sl22 sl23 sl24 sl25 sl26 sl27 sl28 sl29  : Array (Option Value)}
    {oc1 kV1 dc1 pm1 cd1 ct1 oc2 kV2 dc2 pm2 cd2 ct2 oc3 kV3 dc3 pm3 cd3 ct3 oc4 kV4 dc4 pm4 cd4 ct4 oc5 kV5 dc5 pm5 cd5 ct5 oc6 kV6 dc6 pm6 cd6 ct6 oc7 kV7 dc7 pm7 cd7 ct7 oc8 kV8 dc8 pm8 cd8 ct8 oc9 kV9 dc9 pm9 cd9 ct9 oc10 kV10 dc10 pm10 cd10 ct10 oc11 kV11 dc11 pm11 cd11 ct11 oc12 kV12 dc12 pm12 cd12 ct12 oc13 kV13 dc13 pm13 cd13 ct13 oc14 kV14 dc14 pm14 cd14 ct14 oc15 kV15 dc15 pm15 cd15 ct15 oc16 kV16 dc16 pm16 cd16 ct16 oc17 kV17 dc17 pm17 cd17 ct17 oc18 kV18 dc18 pm18 cd18 ct18 oc19 kV19 dc19 pm19 cd19 ct19 oc20 kV20 dc20 pm20 cd20 ct20 oc21 kV21 dc21 pm21 cd21 ct21 oc22 kV22 dc22 pm22 cd22 ct22 oc23 kV23 dc23 pm23 cd23 ct23 oc24 kV24 dc24 pm24 cd24 ct24 oc25 kV25 dc25 pm25 cd25 ct25 oc26 kV26 dc26 pm26 cd26 ct26 oc27 kV27 dc27 pm27 cd27 ct27 oc28 kV28 dc28 pm28 cd28 ct28 oc29 kV29 dc29 pm29 cd29 ct29  : Value}
    (a1 : PySem.W.nsIn K mainGlobals "met" = some (some (.ref f1)))
    (l1 : K.lookup f1 = some ⟨oc1, od1, .func (PySem.W.fnOf "met" "met" (defArgs smet) (defBody smet) (defScope smet) .none kV1 dc1 pm1 an1 cd1 ct1), sl1⟩)
    (c1 : PySem.W.codeIn K cd1 "met" = true)
    (k1 : PySem.W.keepIn K (.ref f1) = true)
    (a2 : PySem.W.nsIn K mainGlobals "placed" = some (some (.ref f2)))
    (l2 : K.lookup f2 = some ⟨oc2, od2, .func (PySem.W.fnOf "placed" "placed" (defArgs splaced) (defBody splaced) (defScope splaced) .none kV2 dc2 pm2 an2 cd2 ct2), sl2⟩)
    (c2 : PySem.W.codeIn K cd2 "placed" = true)
    (k2 : PySem.W.keepIn K (.ref f2) = true)
    (a3 : PySem.W.nsIn K mainGlobals "parts_of" = some (some (.ref f3)))
    (l3 : K.lookup f3 = some ⟨oc3, od3, .func (PySem.W.fnOf "parts_of" "parts_of" (defArgs sparts_of) (defBody sparts_of) (defScope sparts_of) .none kV3 dc3 pm3 an3 cd3 ct3), sl3⟩)
    (c3 : PySem.W.codeIn K cd3 "parts_of" = true)
    (k3 : PySem.W.keepIn K (.ref f3) = true)
    (a4 : PySem.W.nsIn K mainGlobals "errand_named" = some (some (.ref f4)))
    (l4 : K.lookup f4 = some ⟨oc4, od4, .func (PySem.W.fnOf "errand_named" "errand_named" (defArgs serrand_named) (defBody serrand_named) (defScope serrand_named) .none kV4 dc4 pm4 an4 cd4 ct4), sl4⟩)
    (c4 : PySem.W.codeIn K cd4 "errand_named" = true)
    (k4 : PySem.W.keepIn K (.ref f4) = true)
    (a5 : PySem.W.nsIn K mainGlobals "need_errand" = some (some (.ref f5)))
    (l5 : K.lookup f5 = some ⟨oc5, od5, .func (PySem.W.fnOf "need_errand" "need_errand" (defArgs sneed_errand) (defBody sneed_errand) (defScope sneed_errand) .none kV5 dc5 pm5 an5 cd5 ct5), sl5⟩)
    (c5 : PySem.W.codeIn K cd5 "need_errand" = true)
    (k5 : PySem.W.keepIn K (.ref f5) = true)
    (a6 : PySem.W.nsIn K mainGlobals "terms_in" = some (some (.ref f6)))
    (l6 : K.lookup f6 = some ⟨oc6, od6, .func (PySem.W.fnOf "terms_in" "terms_in" (defArgs sterms_in) (defBody sterms_in) (defScope sterms_in) .none kV6 dc6 pm6 an6 cd6 ct6), sl6⟩)
    (c6 : PySem.W.codeIn K cd6 "terms_in" = true)
    (k6 : PySem.W.keepIn K (.ref f6) = true)
    (a7 : PySem.W.nsIn K mainGlobals "rest_of" = some (some (.ref f7)))
    (l7 : K.lookup f7 = some ⟨oc7, od7, .func (PySem.W.fnOf "rest_of" "rest_of" (defArgs srest_of) (defBody srest_of) (defScope srest_of) .none kV7 dc7 pm7 an7 cd7 ct7), sl7⟩)
    (c7 : PySem.W.codeIn K cd7 "rest_of" = true)
    (k7 : PySem.W.keepIn K (.ref f7) = true)
    (a8 : PySem.W.nsIn K mainGlobals "turned_parts" = some (some (.ref f8)))
    (l8 : K.lookup f8 = some ⟨oc8, od8, .func (PySem.W.fnOf "turned_parts" "turned_parts" (defArgs sturned_parts) (defBody sturned_parts) (defScope sturned_parts) .none kV8 dc8 pm8 an8 cd8 ct8), sl8⟩)
    (c8 : PySem.W.codeIn K cd8 "turned_parts" = true)
    (k8 : PySem.W.keepIn K (.ref f8) = true)
    (a9 : PySem.W.nsIn K mainGlobals "not_carried_at" = some (some (.ref f9)))
    (l9 : K.lookup f9 = some ⟨oc9, od9, .func (PySem.W.fnOf "not_carried_at" "not_carried_at" (defArgs snot_carried_at) (defBody snot_carried_at) (defScope snot_carried_at) .none kV9 dc9 pm9 an9 cd9 ct9), sl9⟩)
    (c9 : PySem.W.codeIn K cd9 "not_carried_at" = true)
    (k9 : PySem.W.keepIn K (.ref f9) = true)
    (a10 : PySem.W.nsIn K mainGlobals "is_added_up" = some (some (.ref f10)))
    (l10 : K.lookup f10 = some ⟨oc10, od10, .func (PySem.W.fnOf "is_added_up" "is_added_up" (defArgs sis_added_up) (defBody sis_added_up) (defScope sis_added_up) .none kV10 dc10 pm10 an10 cd10 ct10), sl10⟩)
    (c10 : PySem.W.codeIn K cd10 "is_added_up" = true)
    (k10 : PySem.W.keepIn K (.ref f10) = true)
    (a11 : PySem.W.nsIn K mainGlobals "_law_cell_at" = some (some (.ref f11)))
    (l11 : K.lookup f11 = some ⟨oc11, od11, .func (PySem.W.fnOf "_law_cell_at" "_law_cell_at" (defArgs s_law_cell_at) (defBody s_law_cell_at) (defScope s_law_cell_at) .none kV11 dc11 pm11 an11 cd11 ct11), sl11⟩)
    (c11 : PySem.W.codeIn K cd11 "_law_cell_at" = true)
    (k11 : PySem.W.keepIn K (.ref f11) = true)
    (a12 : PySem.W.nsIn K mainGlobals "_law_tape" = some (some (.ref f12)))
    (l12 : K.lookup f12 = some ⟨oc12, od12, .func (PySem.W.fnOf "_law_tape" "_law_tape" (defArgs s_law_tape) (defBody s_law_tape) (defScope s_law_tape) .none kV12 dc12 pm12 an12 cd12 ct12), sl12⟩)
    (c12 : PySem.W.codeIn K cd12 "_law_tape" = true)
    (k12 : PySem.W.keepIn K (.ref f12) = true)
    (a13 : PySem.W.nsIn K mainGlobals "_law_digit" = some (some (.ref f13)))
    (l13 : K.lookup f13 = some ⟨oc13, od13, .func (PySem.W.fnOf "_law_digit" "_law_digit" (defArgs s_law_digit) (defBody s_law_digit) (defScope s_law_digit) .none kV13 dc13 pm13 an13 cd13 ct13), sl13⟩)
    (c13 : PySem.W.codeIn K cd13 "_law_digit" = true)
    (k13 : PySem.W.keepIn K (.ref f13) = true)
    (a14 : PySem.W.nsIn K mainGlobals "_law_words" = some (some (.ref f14)))
    (l14 : K.lookup f14 = some ⟨oc14, od14, .func (PySem.W.fnOf "_law_words" "_law_words" (defArgs s_law_words) (defBody s_law_words) (defScope s_law_words) .none kV14 dc14 pm14 an14 cd14 ct14), sl14⟩)
    (c14 : PySem.W.codeIn K cd14 "_law_words" = true)
    (k14 : PySem.W.keepIn K (.ref f14) = true)
    (a15 : PySem.W.nsIn K mainGlobals "_law_number" = some (some (.ref f15)))
    (l15 : K.lookup f15 = some ⟨oc15, od15, .func (PySem.W.fnOf "_law_number" "_law_number" (defArgs s_law_number) (defBody s_law_number) (defScope s_law_number) .none kV15 dc15 pm15 an15 cd15 ct15), sl15⟩)
    (c15 : PySem.W.codeIn K cd15 "_law_number" = true)
    (k15 : PySem.W.keepIn K (.ref f15) = true)
    (a16 : PySem.W.nsIn K mainGlobals "_law_leaf" = some (some (.ref f16)))
    (l16 : K.lookup f16 = some ⟨oc16, od16, .func (PySem.W.fnOf "_law_leaf" "_law_leaf" (defArgs s_law_leaf) (defBody s_law_leaf) (defScope s_law_leaf) .none kV16 dc16 pm16 an16 cd16 ct16), sl16⟩)
    (c16 : PySem.W.codeIn K cd16 "_law_leaf" = true)
    (k16 : PySem.W.keepIn K (.ref f16) = true)
    (a17 : PySem.W.nsIn K mainGlobals "_law_less_one" = some (some (.ref f17)))
    (l17 : K.lookup f17 = some ⟨oc17, od17, .func (PySem.W.fnOf "_law_less_one" "_law_less_one" (defArgs s_law_less_one) (defBody s_law_less_one) (defScope s_law_less_one) .none kV17 dc17 pm17 an17 cd17 ct17), sl17⟩)
    (c17 : PySem.W.codeIn K cd17 "_law_less_one" = true)
    (k17 : PySem.W.keepIn K (.ref f17) = true)
    (a18 : PySem.W.nsIn K mainGlobals "_law_simple" = some (some (.ref f18)))
    (l18 : K.lookup f18 = some ⟨oc18, od18, .func (PySem.W.fnOf "_law_simple" "_law_simple" (defArgs s_law_simple) (defBody s_law_simple) (defScope s_law_simple) .none kV18 dc18 pm18 an18 cd18 ct18), sl18⟩)
    (c18 : PySem.W.codeIn K cd18 "_law_simple" = true)
    (k18 : PySem.W.keepIn K (.ref f18) = true)
    (a19 : PySem.W.nsIn K mainGlobals "_law_kids" = some (some (.ref f19)))
    (l19 : K.lookup f19 = some ⟨oc19, od19, .func (PySem.W.fnOf "_law_kids" "_law_kids" (defArgs s_law_kids) (defBody s_law_kids) (defScope s_law_kids) .none kV19 dc19 pm19 an19 cd19 ct19), sl19⟩)
    (c19 : PySem.W.codeIn K cd19 "_law_kids" = true)
    (k19 : PySem.W.keepIn K (.ref f19) = true)
    (a20 : PySem.W.nsIn K mainGlobals "_law_all" = some (some (.ref f20)))
    (l20 : K.lookup f20 = some ⟨oc20, od20, .func (PySem.W.fnOf "_law_all" "_law_all" (defArgs s_law_all) (defBody s_law_all) (defScope s_law_all) .none kV20 dc20 pm20 an20 cd20 ct20), sl20⟩)
    (c20 : PySem.W.codeIn K cd20 "_law_all" = true)
    (k20 : PySem.W.keepIn K (.ref f20) = true)
    (a21 : PySem.W.nsIn K mainGlobals "_law_names_in" = some (some (.ref f21)))
    (l21 : K.lookup f21 = some ⟨oc21, od21, .func (PySem.W.fnOf "_law_names_in" "_law_names_in" (defArgs s_law_names_in) (defBody s_law_names_in) (defScope s_law_names_in) .none kV21 dc21 pm21 an21 cd21 ct21), sl21⟩)
    (c21 : PySem.W.codeIn K cd21 "_law_names_in" = true)
    (k21 : PySem.W.keepIn K (.ref f21) = true)
    (a22 : PySem.W.nsIn K mainGlobals "_law_adding" = some (some (.ref f22)))
    (l22 : K.lookup f22 = some ⟨oc22, od22, .func (PySem.W.fnOf "_law_adding" "_law_adding" (defArgs s_law_adding) (defBody s_law_adding) (defScope s_law_adding) .none kV22 dc22 pm22 an22 cd22 ct22), sl22⟩)
    (c22 : PySem.W.codeIn K cd22 "_law_adding" = true)
    (k22 : PySem.W.keepIn K (.ref f22) = true)
    (a23 : PySem.W.nsIn K mainGlobals "_law_laid_ask" = some (some (.ref f23)))
    (l23 : K.lookup f23 = some ⟨oc23, od23, .func (PySem.W.fnOf "_law_laid_ask" "_law_laid_ask" (defArgs s_law_laid_ask) (defBody s_law_laid_ask) (defScope s_law_laid_ask) .none kV23 dc23 pm23 an23 cd23 ct23), sl23⟩)
    (c23 : PySem.W.codeIn K cd23 "_law_laid_ask" = true)
    (k23 : PySem.W.keepIn K (.ref f23) = true)
    (a24 : PySem.W.nsIn K mainGlobals "_law_laid_part" = some (some (.ref f24)))
    (l24 : K.lookup f24 = some ⟨oc24, od24, .func (PySem.W.fnOf "_law_laid_part" "_law_laid_part" (defArgs s_law_laid_part) (defBody s_law_laid_part) (defScope s_law_laid_part) .none kV24 dc24 pm24 an24 cd24 ct24), sl24⟩)
    (c24 : PySem.W.codeIn K cd24 "_law_laid_part" = true)
    (k24 : PySem.W.keepIn K (.ref f24) = true)
    (a25 : PySem.W.nsIn K mainGlobals "_law_laid_book" = some (some (.ref f25)))
    (l25 : K.lookup f25 = some ⟨oc25, od25, .func (PySem.W.fnOf "_law_laid_book" "_law_laid_book" (defArgs s_law_laid_book) (defBody s_law_laid_book) (defScope s_law_laid_book) .none kV25 dc25 pm25 an25 cd25 ct25), sl25⟩)
    (c25 : PySem.W.codeIn K cd25 "_law_laid_book" = true)
    (k25 : PySem.W.keepIn K (.ref f25) = true)
    (a26 : PySem.W.nsIn K mainGlobals "_law_taken" = some (some (.ref f26)))
    (l26 : K.lookup f26 = some ⟨oc26, od26, .func (PySem.W.fnOf "_law_taken" "_law_taken" (defArgs s_law_taken) (defBody s_law_taken) (defScope s_law_taken) .none kV26 dc26 pm26 an26 cd26 ct26), sl26⟩)
    (c26 : PySem.W.codeIn K cd26 "_law_taken" = true)
    (k26 : PySem.W.keepIn K (.ref f26) = true)
    (a27 : PySem.W.nsIn K mainGlobals "_law_is_adding" = some (some (.ref f27)))
    (l27 : K.lookup f27 = some ⟨oc27, od27, .func (PySem.W.fnOf "_law_is_adding" "_law_is_adding" (defArgs s_law_is_adding) (defBody s_law_is_adding) (defScope s_law_is_adding) .none kV27 dc27 pm27 an27 cd27 ct27), sl27⟩)
    (c27 : PySem.W.codeIn K cd27 "_law_is_adding" = true)
    (k27 : PySem.W.keepIn K (.ref f27) = true)
    (a28 : PySem.W.nsIn K mainGlobals "_law_refused" = some (some (.ref f28)))
    (l28 : K.lookup f28 = some ⟨oc28, od28, .func (PySem.W.fnOf "_law_refused" "_law_refused" (defArgs s_law_refused) (defBody s_law_refused) (defScope s_law_refused) .none kV28 dc28 pm28 an28 cd28 ct28), sl28⟩)
    (c28 : PySem.W.codeIn K cd28 "_law_refused" = true)
    (k28 : PySem.W.keepIn K (.ref f28) = true)
    (a29 : PySem.W.nsIn K mainGlobals "law" = some (some (.ref f29)))
    (l29 : K.lookup f29 = some ⟨oc29, od29, .func (PySem.W.fnOf "law" "law" (defArgs slaw) (defBody slaw) (defScope slaw) .none kV29 dc29 pm29 an29 cd29 ct29), sl29⟩)
    (c29 : PySem.W.codeIn K cd29 "law" = true)
    (k29 : PySem.W.keepIn K (.ref f29) = true)
    (gCN : PySem.W.nsIn K mainGlobals "NoAsking" = some (some (.ref CN)))
    (xCN : PySem.W.excIn K CN [.type "ValueError", .type "Exception", .type "BaseException", .type "object"] "ValueError.__new__" = true)
    (kCN : PySem.W.keepIn K (.ref CN) = true)
    (bCN : PySem.W.subIn K (.ref CN) (.type "BaseException") = some true)
    (tCN : PySem.W.typeIn K (.ref CN) = some (.type "type"))
    (hb3 : PySem.W.nsIn K mainGlobals "NoCarry" = some (some (.ref b3)))
    (hNE : PySem.W.nsIn K mainGlobals "NextError" = some (some (.ref NE)))
    (bNE : PySem.W.subIn K (.ref NE) (.type "BaseException") = some true)
    (dNE : PySem.W.hasDictIn K NE = true)
    (tNE : PySem.W.typeIn K (.ref NE) = some (.type "type"))
    (eSp : PySem.W.specialIn K (.builtin "object.__class__") "__get__" = some (some (.builtin "getset_descriptor.__get__")))
    (eTk : PySem.W.takesIn K (.builtin "object.__class__") = some true)
    (egCN : PySem.W.findIn K (.ref CN) "__getattribute__" = some (some (.builtin "BaseException.__getattribute__")))
    (ekCN : PySem.W.findIn K (.ref CN) "__getattr__" = some none)
    (edCN : PySem.W.hasDictIn K CN = true)
    (eaCN : PySem.W.findIn K (.ref CN) "__class__" = some (some (.builtin "object.__class__")))
    (emCN : PySem.W.mroIn K CN (.type "object") = some true)
    (esCN : PySem.W.subIn K (.ref CN) (.ref NE) = some true)
    (q3CN : PySem.W.subIn K (.ref CN) (.ref b3) = some false)
    (qnCN : PySem.W.subIn K (.ref CN) (.ref CN) = some true)
    (qvCN : PySem.W.subIn K (.ref CN) (.type "ValueError") = some true)
    (icb3 : PySem.W.isClsIn K b3 = true)
    (icCN : PySem.W.isClsIn K CN = true)
    (itb3 : PySem.W.typeIn K (.ref b3) = some (.type "type"))
    (ssb3 : PySem.W.subIn K (.ref b3) (.ref b3) = some true)
    (z_len : PySem.W.nsIn K mainGlobals "len" = some none)
    (z_isinstance : PySem.W.nsIn K mainGlobals "isinstance" = some none)
    (z_int : PySem.W.nsIn K mainGlobals "int" = some none)
    (z_tuple : PySem.W.nsIn K mainGlobals "tuple" = some none)
    (z_list : PySem.W.nsIn K mainGlobals "list" = some none)
    (z_str : PySem.W.nsIn K mainGlobals "str" = some none)
    (z_bool : PySem.W.nsIn K mainGlobals "bool" = some none)
    (z_max : PySem.W.nsIn K mainGlobals "max" = some none)
    (z_all : PySem.W.nsIn K mainGlobals "all" = some none)
    (z_dict : PySem.W.nsIn K mainGlobals "dict" = some none)
    (z_range : PySem.W.nsIn K mainGlobals "range" = some none)
    (z_enumerate : PySem.W.nsIn K mainGlobals "enumerate" = some none)
    (z_reversed : PySem.W.nsIn K mainGlobals "reversed" = some none)
    (z_ValueError : PySem.W.nsIn K mainGlobals "ValueError" = some none)
    {tHOME : Tok}
    (qHOME : PySem.W.nsIn K mainGlobals "HOME" = some (some (.str "home" tHOME)))
    (taSIMPLE_HEADS : PySem.W.nsIn K mainGlobals "SIMPLE_HEADS" = some (some (.ref tuSIMPLE_HEADS)))
    {tdSIMPLE_HEADS : Option Addr} {tnSIMPLE_HEADS : Nat} {tsSIMPLE_HEADS : Array (Option Value)} {tvSIMPLE_HEADS : Array Value}
    (tlSIMPLE_HEADS : K.lookup tuSIMPLE_HEADS = some ⟨.type "tuple", tdSIMPLE_HEADS, .seq tvSIMPLE_HEADS tnSIMPLE_HEADS, tsSIMPLE_HEADS⟩)
    (twSIMPLE_HEADS : Vals heads tvSIMPLE_HEADS.toList)
    : ∃ fd : FuncData, (∀ (s : Shared) (v : Value), BindsTo s fd ⟨[v], []⟩ [("script", v)]) ∧ ∀ base : Heap, K.In base → base.Ns mainGlobals mg → FnOk l.prog w K mg base CX0 53 fa fd ["script"] (spLaw K) := by
  have e := hfa.symm.trans (PySem.W.mg_of X G a29)
  cases e
  have T : Txt K mg := ⟨PySem.W.mg_none_of X G z_len, PySem.W.mg_none_of X G z_isinstance, PySem.W.mg_none_of X G z_int, PySem.W.mg_none_of X G z_tuple, PySem.W.mg_none_of X G z_list, PySem.W.mg_none_of X G z_str, PySem.W.mg_none_of X G z_bool, PySem.W.mg_none_of X G z_max, PySem.W.mg_none_of X G z_all, PySem.W.mg_none_of X G z_dict, PySem.W.mg_none_of X G z_range, PySem.W.mg_none_of X G z_enumerate, PySem.W.mg_none_of X G z_reversed⟩
  have hSIMPLE_HEADS : ∃ a, mg "SIMPLE_HEADS" = some (.ref a) ∧ ∀ H, SqT K H a heads := ⟨tuSIMPLE_HEADS, PySem.W.mg_of X G taSIMPLE_HEADS, fun H => .inr ⟨_, tvSIMPLE_HEADS, tnSIMPLE_HEADS, tlSIMPLE_HEADS, rfl, rfl, by
    have e9 := twSIMPLE_HEADS.length
    have e10 : heads.length = 4 := rfl
    rw [e10] at e9
    have e8 : tvSIMPLE_HEADS.size = 4 := by
      rw [← Array.length_toList]
      exact e9.symm
    rw [e8]
    decide, twSIMPLE_HEADS⟩⟩
  have XCN : XcT K mg "NoAsking" CN := ⟨PySem.W.mg_of X G gCN, xCN, kCN, bCN, tCN⟩
  have NX : NmR K mg CN b3 NE := ⟨PySem.W.mg_of X G gCN, PySem.W.mg_of X G hb3, PySem.W.mg_of X G hNE, PySem.W.mg_none_of X G z_ValueError, ⟨egCN, ekCN, bCN, edCN, eaCN, eSp, eTk, emCN⟩, PySem.W.exm_ref bNE dNE tNE esCN, kit_ref icb3 itb3 q3CN ssb3, kit_ref icCN tCN qnCN qnCN, kit_ve qvCN⟩
  have F1 := fun_mk (st := smet) l1 c1 k1
  have R1 : Ref K mg "met" f1 _ ["body", "parts"] := ⟨PySem.W.mg_of X G a1, k1, F1.binds (ps := ["body", "parts"]) fun _ _ _ _ _ _ us hl => match us, hl with | [_, _], _ => rfl⟩
  have F2 := fun_mk (st := splaced) l2 c2 k2
  have R2 : Ref K mg "placed" f2 _ ["name", "body", "parts"] := ⟨PySem.W.mg_of X G a2, k2, F2.binds (ps := ["name", "body", "parts"]) fun _ _ _ _ _ _ us hl => match us, hl with | [_, _, _], _ => rfl⟩
  have F3 := fun_mk (st := sparts_of) l3 c3 k3
  have R3 : Ref K mg "parts_of" f3 _ ["term"] := ⟨PySem.W.mg_of X G a3, k3, F3.binds (ps := ["term"]) fun _ _ _ _ _ _ us hl => match us, hl with | [_], _ => rfl⟩
  have F4 := fun_mk (st := serrand_named) l4 c4 k4
  have R4 : Ref K mg "errand_named" f4 _ ["book", "f"] := ⟨PySem.W.mg_of X G a4, k4, F4.binds (ps := ["book", "f"]) fun _ _ _ _ _ _ us hl => match us, hl with | [_, _], _ => rfl⟩
  have F5 := fun_mk (st := sneed_errand) l5 c5 k5
  have R5 : Ref K mg "need_errand" f5 _ ["book", "f"] := ⟨PySem.W.mg_of X G a5, k5, F5.binds (ps := ["book", "f"]) fun _ _ _ _ _ _ us hl => match us, hl with | [_, _], _ => rfl⟩
  have F6 := fun_mk (st := sterms_in) l6 c6 k6
  have R6 : Ref K mg "terms_in" f6 _ ["part"] := ⟨PySem.W.mg_of X G a6, k6, F6.binds (ps := ["part"]) fun _ _ _ _ _ _ us hl => match us, hl with | [_], _ => rfl⟩
  have F7 := fun_mk (st := srest_of) l7 c7 k7
  have R7 : Ref K mg "rest_of" f7 _ ["part"] := ⟨PySem.W.mg_of X G a7, k7, F7.binds (ps := ["part"]) fun _ _ _ _ _ _ us hl => match us, hl with | [_], _ => rfl⟩
  have F8 := fun_mk (st := sturned_parts) l8 c8 k8
  have R8 : Ref K mg "turned_parts" f8 _ ["part"] := ⟨PySem.W.mg_of X G a8, k8, F8.binds (ps := ["part"]) fun _ _ _ _ _ _ us hl => match us, hl with | [_], _ => rfl⟩
  have F9 := fun_mk (st := snot_carried_at) l9 c9 k9
  have R9 : Ref K mg "not_carried_at" f9 _ ["turned", "f"] := ⟨PySem.W.mg_of X G a9, k9, F9.binds (ps := ["turned", "f"]) fun _ _ _ _ _ _ us hl => match us, hl with | [_, _], _ => rfl⟩
  have F10 := fun_mk (st := sis_added_up) l10 c10 k10
  have R10 : Ref K mg "is_added_up" f10 _ ["post"] := ⟨PySem.W.mg_of X G a10, k10, F10.binds (ps := ["post"]) fun _ _ _ _ _ _ us hl => match us, hl with | [_], _ => rfl⟩
  have F11 := fun_mk (st := s_law_cell_at) l11 c11 k11
  have R11 : Ref K mg "_law_cell_at" f11 _ ["script", "k"] := ⟨PySem.W.mg_of X G a11, k11, F11.binds (ps := ["script", "k"]) fun _ _ _ _ _ _ us hl => match us, hl with | [_, _], _ => rfl⟩
  have F12 := fun_mk (st := s_law_tape) l12 c12 k12
  have R12 : Ref K mg "_law_tape" f12 _ ["script", "k"] := ⟨PySem.W.mg_of X G a12, k12, F12.binds (ps := ["script", "k"]) fun _ _ _ _ _ _ us hl => match us, hl with | [_, _], _ => rfl⟩
  have F13 := fun_mk (st := s_law_digit) l13 c13 k13
  have R13 : Ref K mg "_law_digit" f13 _ ["tape", "many"] := ⟨PySem.W.mg_of X G a13, k13, F13.binds (ps := ["tape", "many"]) fun _ _ _ _ _ _ us hl => match us, hl with | [_, _], _ => rfl⟩
  have F14 := fun_mk (st := s_law_words) l14 c14 k14
  have R14 : Ref K mg "_law_words" f14 _ ["tape", "many"] := ⟨PySem.W.mg_of X G a14, k14, F14.binds (ps := ["tape", "many"]) fun _ _ _ _ _ _ us hl => match us, hl with | [_, _], _ => rfl⟩
  have F15 := fun_mk (st := s_law_number) l15 c15 k15
  have R15 : Ref K mg "_law_number" f15 _ ["tape"] := ⟨PySem.W.mg_of X G a15, k15, F15.binds (ps := ["tape"]) fun _ _ _ _ _ _ us hl => match us, hl with | [_], _ => rfl⟩
  have F16 := fun_mk (st := s_law_leaf) l16 c16 k16
  have R16 : Ref K mg "_law_leaf" f16 _ ["tape", "known", "around"] := ⟨PySem.W.mg_of X G a16, k16, F16.binds (ps := ["tape", "known", "around"]) fun _ _ _ _ _ _ us hl => match us, hl with | [_, _, _], _ => rfl⟩
  have F17 := fun_mk (st := s_law_less_one) l17 c17 k17
  have R17 : Ref K mg "_law_less_one" f17 _ ["around"] := ⟨PySem.W.mg_of X G a17, k17, F17.binds (ps := ["around"]) fun _ _ _ _ _ _ us hl => match us, hl with | [_], _ => rfl⟩
  have F18 := fun_mk (st := s_law_simple) l18 c18 k18
  have R18 : Ref K mg "_law_simple" f18 _ ["tape", "around", "deep"] := ⟨PySem.W.mg_of X G a18, k18, F18.binds (ps := ["tape", "around", "deep"]) fun _ _ _ _ _ _ us hl => match us, hl with | [_, _, _], _ => rfl⟩
  have F19 := fun_mk (st := s_law_kids) l19 c19 k19
  have R19 : Ref K mg "_law_kids" f19 _ ["part"] := ⟨PySem.W.mg_of X G a19, k19, F19.binds (ps := ["part"]) fun _ _ _ _ _ _ us hl => match us, hl with | [_], _ => rfl⟩
  have F20 := fun_mk (st := s_law_all) l20 c20 k20
  have R20 : Ref K mg "_law_all" f20 _ ["part", "place"] := ⟨PySem.W.mg_of X G a20, k20, F20.binds (ps := ["part", "place"]) fun _ _ _ _ _ _ us hl => match us, hl with | [_, _], _ => rfl⟩
  have F21 := fun_mk (st := s_law_names_in) l21 c21 k21
  have R21 : Ref K mg "_law_names_in" f21 _ ["term"] := ⟨PySem.W.mg_of X G a21, k21, F21.binds (ps := ["term"]) fun _ _ _ _ _ _ us hl => match us, hl with | [_], _ => rfl⟩
  have F22 := fun_mk (st := s_law_adding) l22 c22 k22
  have R22 : Ref K mg "_law_adding" f22 _ ["tape", "around", "x"] := ⟨PySem.W.mg_of X G a22, k22, F22.binds (ps := ["tape", "around", "x"]) fun _ _ _ _ _ _ us hl => match us, hl with | [_, _, _], _ => rfl⟩
  have F23 := fun_mk (st := s_law_laid_ask) l23 c23 k23
  have R23 : Ref K mg "_law_laid_ask" f23 _ ["tape", "known", "around"] := ⟨PySem.W.mg_of X G a23, k23, F23.binds (ps := ["tape", "known", "around"]) fun _ _ _ _ _ _ us hl => match us, hl with | [_, _, _], _ => rfl⟩
  have F24 := fun_mk (st := s_law_laid_part) l24 c24 k24
  have R24 : Ref K mg "_law_laid_part" f24 _ ["tape", "known", "around", "room"] := ⟨PySem.W.mg_of X G a24, k24, F24.binds (ps := ["tape", "known", "around", "room"]) fun _ _ _ _ _ _ us hl => match us, hl with | [_, _, _, _], _ => rfl⟩
  have F25 := fun_mk (st := s_law_laid_book) l25 c25 k25
  have R25 : Ref K mg "_law_laid_book" f25 _ ["script", "start"] := ⟨PySem.W.mg_of X G a25, k25, F25.binds (ps := ["script", "start"]) fun _ _ _ _ _ _ us hl => match us, hl with | [_, _], _ => rfl⟩
  have F26 := fun_mk (st := s_law_taken) l26 c26 k26
  have R26 : Ref K mg "_law_taken" f26 _ ["term", "x"] := ⟨PySem.W.mg_of X G a26, k26, F26.binds (ps := ["term", "x"]) fun _ _ _ _ _ _ us hl => match us, hl with | [_, _], _ => rfl⟩
  have F27 := fun_mk (st := s_law_is_adding) l27 c27 k27
  have R27 : Ref K mg "_law_is_adding" f27 _ ["part"] := ⟨PySem.W.mg_of X G a27, k27, F27.binds (ps := ["part"]) fun _ _ _ _ _ _ us hl => match us, hl with | [_], _ => rfl⟩
  have F28 := fun_mk (st := s_law_refused) l28 c28 k28
  have R28 : Ref K mg "_law_refused" f28 _ ["turned", "f"] := ⟨PySem.W.mg_of X G a28, k28, F28.binds (ps := ["turned", "f"]) fun _ _ _ _ _ _ us hl => match us, hl with | [_, _], _ => rfl⟩
  have F29 := fun_mk (st := slaw) l29 c29 k29
  refine ⟨PySem.W.fnOf "law" "law" (defArgs slaw) (defBody slaw) (defScope slaw) .none kV29 dc29 pm29 an29 cd29 ct29, fun s v => .of_eq rfl, fun base _ _ => ?_⟩
  have G_law_cell_at := ok_cell (P := l.prog) (w := w) (mg := mg) (base := base) T F11
  have G_law_tape := ok_tape (P := l.prog) (w := w) (mg := mg) (base := base) T F12 G_law_cell_at R11
  have G_law_digit := ok_dig (P := l.prog) (w := w) (mg := mg) (base := base) F13
  have G_law_words := ok_words (P := l.prog) (w := w) (mg := mg) (base := base) T F14 G_law_digit R13
  have G_law_number := ok_num (P := l.prog) (w := w) (mg := mg) (base := base) F15 G_law_digit R13
  have G_law_leaf := ok_leaf (P := l.prog) (w := w) (mg := mg) (base := base) T F16 G_law_digit R13 G_law_number R15
  have G_law_less_one := ok_less (P := l.prog) (w := w) (mg := mg) (base := base) F17
  have G_law_simple := all_simple (P := l.prog) (w := w) (mg := mg) (base := base) T F18 G_law_digit R13 G_law_leaf R16 R18
  have G_law_adding := ok_ladd (P := l.prog) (w := w) (mg := mg) (base := base) T F22 G_law_digit R13 G_law_simple R18
  have G_law_laid_ask := ok_lask (P := l.prog) (w := w) (mg := mg) (base := base) T F23 G_law_digit R13 G_law_less_one R17 G_law_simple R18
  have G_law_laid_part := all_lpart (P := l.prog) (w := w) (mg := mg) (base := base) T F24 G_law_digit R13 G_law_adding R22 G_law_laid_ask R23 G_law_simple R18 R24 4
  have G_law_laid_book := ok_lbook (P := l.prog) (w := w) (mg := mg) (base := base) T F25 G_law_digit R13 G_law_tape R12 G_law_words R14 G_law_simple R18 G_law_laid_part R24
  have Gparts_of := ok_parts (P := l.prog) (w := w) (mg := mg) (base := base) F3
  have Gterms_in := ok_tin (P := l.prog) (w := w) (mg := mg) (base := base) F6
  have Grest_of := ok_rest (P := l.prog) (w := w) (mg := mg) (base := base) F7
  have Gturned_parts := ok_tparts (P := l.prog) (w := w) (mg := mg) (base := base) hSIMPLE_HEADS F8 Gparts_of R3 Gterms_in R6 Grest_of R7
  have Gmet := ok_met (P := l.prog) (w := w) (mg := mg) (base := base) TrS F1 (parts_S Gparts_of) R3.k R3.b
  have Gplaced := ok_placed (P := l.prog) (w := w) (mg := mg) (base := base) TrN T F2 Gturned_parts R8.k R8.b
  have Gerrand_named := ok_nam (P := l.prog) (w := w) (mg := mg) (base := base) F4
  have Gneed_errand := ok_needE (P := l.prog) (w := w) (mg := mg) (base := base) XCN F5 Gerrand_named R4
  have Gis_added_up := ok_added (P := l.prog) (w := w) (mg := mg) (base := base) F10 Gmet R1 R3
  have Gnot_carried_at := ok_not (P := l.prog) (w := w) (mg := mg) (base := base) T ⟨_, PySem.W.mg_of X G qHOME⟩ F9 Gneed_errand R5 Gerrand_named R4 Gplaced R2 R8 Gis_added_up R10
  have G_law_kids := ok_lkids (P := l.prog) (w := w) (mg := mg) (base := base) F19
  have G_law_all := all_lall (P := l.prog) (w := w) (mg := mg) (base := base) F20 G_law_kids R19 R20 11
  have G_law_names_in := all_lnm (P := l.prog) (w := w) (mg := mg) (base := base) F21 R21 31
  have G_law_taken := all_ltk (P := l.prog) (w := w) (mg := mg) (base := base) F26 G_law_names_in R21 R26 20
  have G_law_is_adding := ok_lisa (P := l.prog) (w := w) (mg := mg) (base := base) F27 G_law_names_in R21 G_law_taken R26
  have G_law_refused := ok_refused (P := l.prog) (w := w) (mg := mg) (base := base) T NX F28 Gnot_carried_at R9
  exact ok_law T F29 G_law_laid_book R25 G_law_all R20 G_law_is_adding R27 Gnot_carried_at R9 G_law_refused R28
theorem walk {l : PySem.W.OpenLaw} {q : Program} {loose : List Str} {XP : (Str → Option Value) → Heap → Prop} {YP : World → Heap → Prop} {d : DefRec} {K : Params → PySem.W.Frag} (hn : l.most = some 63) (hdf : d.params.defaults = [])
    (hY : ∀ (w : World) (h : Heap), YP w h → (K w.params).In h)
    (F : ∀ (w : World) (mg : Str → Option Value) (fa : Addr) (h : Heap), (K w.params).In h → h.Ns mainGlobals mg → mg d.name = some (.ref fa) →
      ∃ fd : FuncData, (∀ (s : Shared) (u : Value), BindsTo s fd ⟨[u], []⟩ [("script", u)]) ∧ ∀ base : Heap, (K w.params).In base → base.Ns mainGlobals mg → FnOk l.prog w (K w.params) mg base CX0 53 fa fd ["script"] (spLaw (K w.params))) :
    PySem.W.WalkO q loose XP YP l.row.toRowW d [] (fun f vs => PySem.call f vs) :=
  L2.walk_of (n := 63) (k := 53) (x := "script") (CX := fun _ => CX0) (sp := fun w => spLaw (K w.params)) hn (by decide) hdf ⟨rfl, by decide, by decide⟩ hY F (fun _ _ a ns hl _ hS => ⟨a, ns, rfl, hS, hl, fun _ => rfl⟩) fun _ _ _ _ _ z => z
end KB

open PySem PySem.W PyProof.Rows in
set_option maxRecDepth 100000 in
set_option maxHeartbeats 0 in
theorem PySem.Challenge.cw_whatnext_k62_where_none_is_carried_holds : PySem.Challenge.rw_whatnext_k62_where_none_is_carried.Holds := by
  w_on; o_law; k_head; (case hw => w_witness2)
  k_fill
  refine KB.walk (l := PySem.Challenge.rw_whatnext_k62_where_none_is_carried) rfl rfl (fun w h Y => PySem.W.kIn_of Y) ?F
  case F =>
    intro w mg fa h KX G hmg
    refine' KB.all_mk KX G hmg ?a1 ?l1 ?c1 ?k1 ?a2 ?l2 ?c2 ?k2 ?a3 ?l3 ?c3 ?k3 ?a4 ?l4 ?c4 ?k4 ?a5 ?l5 ?c5 ?k5 ?a6 ?l6 ?c6 ?k6 ?a7 ?l7 ?c7 ?k7 ?a8 ?l8 ?c8 ?k8 ?a9 ?l9 ?c9 ?k9 ?a10 ?l10 ?c10 ?k10 ?a11 ?l11 ?c11 ?k11 ?a12 ?l12 ?c12 ?k12 ?a13 ?l13 ?c13 ?k13 ?a14 ?l14 ?c14 ?k14 ?a15 ?l15 ?c15 ?k15 ?a16 ?l16 ?c16 ?k16 ?a17 ?l17 ?c17 ?k17 ?a18 ?l18 ?c18 ?k18 ?a19 ?l19 ?c19 ?k19 ?a20 ?l20 ?c20 ?k20 ?a21 ?l21 ?c21 ?k21 ?a22 ?l22 ?c22 ?k22 ?a23 ?l23 ?c23 ?k23 ?a24 ?l24 ?c24 ?k24 ?a25 ?l25 ?c25 ?k25 ?a26 ?l26 ?c26 ?k26 ?a27 ?l27 ?c27 ?k27 ?a28 ?l28 ?c28 ?k28 ?a29 ?l29 ?c29 ?k29 ?gCN ?xCN ?kCN ?bCN ?tCN ?hb3 ?hNE ?bNE ?dNE ?tNE ?eSp ?eTk ?egCN ?ekCN ?edCN ?eaCN ?emCN ?esCN ?q3CN ?qnCN ?qvCN ?icb3 ?icCN ?itb3 ?ssb3 ?z_len ?z_isinstance ?z_int ?z_tuple ?z_list ?z_str ?z_bool ?z_max ?z_all ?z_dict ?z_range ?z_enumerate ?z_reversed ?z_ValueError ?qHOME ?taSIMPLE_HEADS ?tlSIMPLE_HEADS ?twSIMPLE_HEADS
    (case a1 => k_is)
    (case l1 => k_is)
    (case c1 => k_is)
    (case k1 => k_is)
    (case a2 => k_is)
    (case l2 => k_is)
    (case c2 => k_is)
    (case k2 => k_is)
    (case a3 => k_is)
    (case l3 => k_is)
    (case c3 => k_is)
    (case k3 => k_is)
    (case a4 => k_is)
    (case l4 => k_is)
    (case c4 => k_is)
    (case k4 => k_is)
    (case a5 => k_is)
    (case l5 => k_is)
    (case c5 => k_is)
    (case k5 => k_is)
    (case a6 => k_is)
    (case l6 => k_is)
    (case c6 => k_is)
    (case k6 => k_is)
    (case a7 => k_is)
    (case l7 => k_is)
    (case c7 => k_is)
    (case k7 => k_is)
    (case a8 => k_is)
    (case l8 => k_is)
    (case c8 => k_is)
    (case k8 => k_is)
    (case a9 => k_is)
    (case l9 => k_is)
    (case c9 => k_is)
    (case k9 => k_is)
    (case a10 => k_is)
    (case l10 => k_is)
    (case c10 => k_is)
    (case k10 => k_is)
    (case a11 => k_is)
    (case l11 => k_is)
    (case c11 => k_is)
    (case k11 => k_is)
    (case a12 => k_is)
    (case l12 => k_is)
    (case c12 => k_is)
    (case k12 => k_is)
    (case a13 => k_is)
    (case l13 => k_is)
    (case c13 => k_is)
    (case k13 => k_is)
    (case a14 => k_is)
    (case l14 => k_is)
    (case c14 => k_is)
    (case k14 => k_is)
    (case a15 => k_is)
    (case l15 => k_is)
    (case c15 => k_is)
    (case k15 => k_is)
    (case a16 => k_is)
    (case l16 => k_is)
    (case c16 => k_is)
    (case k16 => k_is)
    (case a17 => k_is)
    (case l17 => k_is)
    (case c17 => k_is)
    (case k17 => k_is)
    (case a18 => k_is)
    (case l18 => k_is)
    (case c18 => k_is)
    (case k18 => k_is)
    (case a19 => k_is)
    (case l19 => k_is)
    (case c19 => k_is)
    (case k19 => k_is)
    (case a20 => k_is)
    (case l20 => k_is)
    (case c20 => k_is)
    (case k20 => k_is)
    (case a21 => k_is)
    (case l21 => k_is)
    (case c21 => k_is)
    (case k21 => k_is)
    (case a22 => k_is)
    (case l22 => k_is)
    (case c22 => k_is)
    (case k22 => k_is)
    (case a23 => k_is)
    (case l23 => k_is)
    (case c23 => k_is)
    (case k23 => k_is)
    (case a24 => k_is)
    (case l24 => k_is)
    (case c24 => k_is)
    (case k24 => k_is)
    (case a25 => k_is)
    (case l25 => k_is)
    (case c25 => k_is)
    (case k25 => k_is)
    (case a26 => k_is)
    (case l26 => k_is)
    (case c26 => k_is)
    (case k26 => k_is)
    (case a27 => k_is)
    (case l27 => k_is)
    (case c27 => k_is)
    (case k27 => k_is)
    (case a28 => k_is)
    (case l28 => k_is)
    (case c28 => k_is)
    (case k28 => k_is)
    (case a29 => k_is)
    (case l29 => k_is)
    (case c29 => k_is)
    (case k29 => k_is)
    (case gCN => k_is)
    (case xCN => k_exc)
    (case kCN => k_is)
    (case bCN => k_is)
    (case tCN => k_is)
    (case hb3 => k_is)
    (case hNE => k_is)
    (case bNE => k_is)
    (case dNE => k_is)
    (case tNE => k_is)
    (case eSp => k_is)
    (case eTk => k_is)
    (case egCN => k_is)
    (case ekCN => k_is)
    (case edCN => k_is)
    (case eaCN => k_is)
    (case emCN => k_is)
    (case esCN => k_is)
    (case q3CN => k_is)
    (case qnCN => k_is)
    (case qvCN => k_is)
    (case icb3 => k_is)
    (case icCN => k_is)
    (case itb3 => k_is)
    (case ssb3 => k_is)
    (case z_len => k_is)
    (case z_isinstance => k_is)
    (case z_int => k_is)
    (case z_tuple => k_is)
    (case z_list => k_is)
    (case z_str => k_is)
    (case z_bool => k_is)
    (case z_max => k_is)
    (case z_all => k_is)
    (case z_dict => k_is)
    (case z_range => k_is)
    (case z_enumerate => k_is)
    (case z_reversed => k_is)
    (case z_ValueError => k_is)
    (case qHOME => k_is)
    (case taSIMPLE_HEADS => k_is)
    (case tlSIMPLE_HEADS => k_is)
    (case twSIMPLE_HEADS => exact .cons ⟨_, rfl⟩ (.cons ⟨_, rfl⟩ (.cons ⟨_, rfl⟩ (.cons ⟨_, rfl⟩ (.nil)))))
#print axioms PySem.Challenge.cw_whatnext_k62_where_none_is_carried_holds
