import PyProof.Rows.All
import Wide.All
import OpenK.AllK
import Wide.FinOn
import HandS.ForMost
import HandS.TupAny
import HandS.Style
import HandS.IsInst
import HandS.Star
import HandS.RevRange
import HandS.Wide
import HandS.Conv
import PyProof.StrOps2
import HandS.Evl
import HandS.Flow
import KE.KDictZip
import HandS.Zip
import HandS.Rev
import HandS.DictComp
import HandS.ForExc
import HandS.Zip0
import PyProof.Draws
import PyProof.EnumMake
import HandS.Deep
import PySem.Challenge.RW_whatnext_k08_last_and_led_on
set_option Elab.async false
set_option maxRecDepth 100000
set_option maxHeartbeats 8000000
set_option linter.unusedVariables false
namespace KB
open PySem L2
open PySem.AutoSeq1 PySem.MeetsSeq PySem.MeetsSeq2 PySem.MeetsSeq3

def top (i : Nat) : Stmt := (PySem.Challenge.pw_whatnext_k08_last_and_led_on).main.body.getD i (.Pass ⟨0, 0, 0, 0⟩)

/-! ### two rules that the layer lacks: a list extended by a tuple, a text times a number -/
theorem ext_lt (l b : Addr) (us ws : Array Value) (n m : Nat) (dd : Option Addr) (sl : Array (Option Value))
    (h0 : ¬(!us.isEmpty && Builtin.List.listTooLong (us.size + ws.size)) = true) (h1 : us.size ≤ sizeLine) (h2 : us.size + ws.size ≤ sizeLine + 1) :
    Meets (Builtin.«list.extend» ⟨[.ref l, .ref b], []⟩) (fun _ R s => s.heap.get? l = some { cls := .type "list", dict := none, data := .seq us n, slots := #[] } ∧
      s.heap.get? b = some { cls := .type "tuple", dict := dd, data := .seq ws m, slots := sl } ∧
      R (.ok (.ret Value.none)) { s with heap := s.heap.update l (Obj.mapSeq fun x => x ++ ws), toks := s.toks }) := by
  refine .of_wp fun prog w A R s h => ?_
  obtain ⟨hp, g, d, tk, os⟩ := s
  obtain ⟨hl, hb, h⟩ := h
  have f1 := idx_int; have f2 := sub_tuple_tuple; have f3 := sub_list_list; have f4 := sub_tuple_list; have f5 := sub_list_tuple
  have hz' : (us ++ ws).size ≤ sizeLine + 1 := by
    rw [Array.size_append]
    exact h2
  wp_walk using (wpAny_updateSeq hl rfl (hz := h1) (_hz' := hz')), wpAny_loadPart' hl, wpAny_loadPart' hb
  exact ⟨_, rfl, h⟩
section
variable {X : Cx}
def rExtT (K : PySem.W.Frag) : V → List V → Hp → VK → Prop := fun x vs H Q => ∃ l b xs zs, x = .ref l ∧ vs = [.ref b] ∧ H l = some (.lst xs) ∧ SqT K H b zs ∧ xs.length + zs.length ≤ sizeLine ∧ Q .non (upd H l (.lst (xs ++ zs)))
theorem mt_extT : MtR X "list.extend" (rExtT X.K) := by
  intro pins s σ H x vs v us Q I rx rv h
  obtain ⟨l, b, xs, zs, rfl, rfl, hH, hB, hz, q⟩ := h
  cases rx
  obtain ⟨u, rfl, ru⟩ := rv.one
  cases ru
  obtain ⟨z, its, n, r, hl, e⟩ := I.lstM hH
  obtain ⟨its2, r2, ⟨⟨c2, d2, a2, s2⟩, e2, hc, n2, hd⟩, _⟩ := I.tuple hB
  cases hc
  cases hd
  have hl2 := r2.length
  have hsz : its.toArray.size + its2.toArray.size ≤ sizeLine := by
    rw [List.size_toArray, List.size_toArray]
    omega
  have hlong : ¬ (!its.toArray.isEmpty && Builtin.List.listTooLong (its.toArray.size + its2.toArray.size)) = true := by
    rw [notLongL hsz, Bool.and_false]
    exact Bool.false_ne_true
  refine call_meets F.slot_list_extend ⟨_, e, rfl⟩ F.entry_list_extend (F.args_list_extend_2 _ _)
    (ext_lt l b its.toArray its2.toArray n n2 d2 s2 hlong (by rw [List.size_toArray]; omega) (by omega)) ⟨e, e2, ?_⟩
  exact ⟨.non, _, I.lset (its' := its ++ its2) hH e (by simp) (r.append r2) (by rw [List.length_append]; exact hz), rfl, q⟩
end
end KB

namespace KB
open PySem L2

/-! ### terms as data -/
inductive Hd | num (z : Int) | nam (x : Str) | plus | less | tell | lett (x : Str) | iff | ask (f : Str)
inductive Tm | mk (h : Hd) (n : Nat) (k : Fin n → Tm)
def hs : Hd → Str
  | .num _ => "number" | .nam _ => "name" | .plus => "plus" | .less => "less" | .tell => "tell" | .lett _ => "let" | .iff => "if" | .ask _ => "ask"
/-- what stands at a, xs being its parts -/
def Lay (H : Hp) (a : Addr) : Hd → List V → Prop
  | .num z, xs => xs = [] ∧ H a = some (.tup [.str "number", .int z])
  | .nam x, xs => xs = [] ∧ H a = some (.tup [.str "name", .str x])
  | .plus, xs => xs.length = 2 ∧ H a = some (.tup (.str "plus" :: xs))
  | .less, xs => xs.length = 2 ∧ H a = some (.tup (.str "less" :: xs))
  | .tell, xs => xs.length = 1 ∧ H a = some (.tup (.str "tell" :: xs))
  | .lett x, xs => xs.length = 2 ∧ H a = some (.tup (.str "let" :: .str x :: xs))
  | .iff, xs => xs.length = 3 ∧ H a = some (.tup (.str "if" :: xs))
  | .ask f, xs => xs.length ≤ 4 ∧ ∃ p, H a = some (.tup [.str "ask", .str f, .ref p]) ∧ H p = some (.tup xs)
def Rfs {n : Nat} (ys : Fin n → Addr) : List V := List.ofFn fun i => V.ref (ys i)
def At (H : Hp) : Tm → Addr → Prop
  | .mk h n k, a => ∃ ys : Fin n → Addr, Lay H a h (Rfs ys) ∧ ∀ i, At H (k i) (ys i)
def cnt : Tm → Nat
  | .mk _ _ k => 1 + (List.ofFn fun i => cnt (k i)).sum
def places : Tm → List (List Int)
  | .mk _ n k => [] :: (List.ofFn fun i : Fin n => (places (k i)).map ((i.val : Int) :: ·)).flatten
def flatHd : Hd → Bool
  | .num _ | .nam _ | .plus | .less => true
  | _ => false
def simple : Tm → Bool
  | .mk h _ k => flatHd h && (List.ofFn fun i => simple (k i)).all id
def letsOf : Tm → List Str
  | .mk h _ k => (match h with | .lett x => [x] | _ => []) ++ (List.ofFn fun i => letsOf (k i)).flatten

theorem Lay.mono {H H' : Hp} (e : Same H H') {a : Addr} {h : Hd} {xs : List V} (l : Lay H a h xs) : Lay H' a h xs := by
  cases h with
  | ask f => obtain ⟨z, p, h1, h2⟩ := l; exact ⟨z, p, e _ _ h1, e _ _ h2⟩
  | _ => exact ⟨l.1, e _ _ l.2⟩
theorem At.mono {H H' : Hp} (e : Same H H') : ∀ {t : Tm} {a : Addr}, At H t a → At H' t a := by
  intro t
  induction t with
  | mk h n k ih =>
    rintro a ⟨ys, l, r⟩
    exact ⟨ys, l.mono e, fun i => ih i (r i)⟩
/-- every node begins with its word -/
theorem Lay.head {H : Hp} {a : Addr} {h : Hd} {xs : List V} (l : Lay H a h xs) : ∃ r, H a = some (.tup (.str (hs h) :: r)) := by
  cases h with
  | ask f => obtain ⟨z, p, h1, h2⟩ := l; exact ⟨_, h1⟩
  | _ => exact ⟨_, l.2⟩

theorem same_new {H : Hp} {p : Addr} (h : H p = none) (o : HO) : Same H (upd H p o) := fun b u q => by
  rw [upd_ne (ne_of_none q h)]
  exact q
theorem sIx_at {n d : Nat} {i : Int} (h0 : 0 ≤ i) (h : i.toNat ≤ n) : HT.sIx n d (some i) = i.toNat := by
  show (if i < 0 then (i + (n : Int)).toNat else min i.toNat n) = i.toNat
  rw [if_neg (by omega)]
  omega
theorem sIx_no {n d : Nat} : HT.sIx n d none = d := rfl
theorem not_whole {xs : List V} {i : Int} (h0 : 0 < i) (h : i.toNat ≤ xs.length) : ¬ (HT.sIx xs.length 0 (some i) = 0 ∧ HT.sIx xs.length xs.length none = xs.length) := by
  rw [sIx_at (by omega) h]
  omega
theorem cut_from {xs : List V} {i : Int} (h0 : 0 ≤ i) (h : i.toNat ≤ xs.length) : cutV xs (some i) none = xs.drop i.toNat := by
  unfold cutV
  rw [sIx_at h0 h, sIx_no, List.take_of_length_le (by rw [List.length_drop]; exact Nat.le_refl _)]
theorem len1 {α : Type} {x : α} {r : List α} : 1 ≤ (x :: r).length := Nat.succ_le_succ (Nat.zero_le _)
theorem len2 {α : Type} {x y : α} {r : List α} : 2 ≤ (x :: y :: r).length := Nat.succ_le_succ len1
theorem cut1 {x : V} {r : List V} : cutV (x :: r) (some 1) none = r := cut_from (i := 1) (by decide) len1
theorem cut2 {x y : V} {r : List V} : cutV (x :: y :: r) (some 2) none = r := cut_from (i := 2) (by decide) len2
theorem itT {b : Bool} {A B : Prop} (e : b = true) (h : A) : if b = true then A else B := by
  rw [if_pos e]
  exact h
theorem itF {b : Bool} {A B : Prop} (e : b = false) (h : B) : if b = true then A else B := by
  rw [if_neg (by rw [e]; exact Bool.false_ne_true)]
  exact h
theorem at0 {x : V} {r : List V} : atI (x :: r) 0 = some x := at_of (j := 0) rfl rfl
theorem at1 {x y : V} {r : List V} : atI (x :: y :: r) 1 = some y := at_of (j := 1) rfl rfl
theorem at2 {x y z : V} {r : List V} : atI (x :: y :: z :: r) 2 = some z := at_of (j := 2) rfl rfl
theorem sz {n : Nat} (h : n ≤ 100000) : n ≤ sizeLine := Nat.le_trans h (by decide)
/-- the facts of the top -/
structure Ref (K : PySem.W.Frag) (mg : Str → Option Value) (x : Str) (f : Addr) (fd : FuncData) (ps : List Str) : Prop where
  m : mg x = some (.ref f)
  k : PySem.W.keepIn K (.ref f) = true
  b : Binds K fd ps []
structure Txt (K : PySem.W.Frag) (mg : Str → Option Value) : Prop where
  m_len : mg "len" = none
  m_isinstance : mg "isinstance" = none
  m_int : mg "int" = none
  m_tuple : mg "tuple" = none
  m_list : mg "list" = none
  m_str : mg "str" = none
  m_bool : mg "bool" = none
  m_max : mg "max" = none
  m_all : mg "all" = none
  m_dict : mg "dict" = none
  m_range : mg "range" = none
  m_enumerate : mg "enumerate" = none
  m_reversed : mg "reversed" = none

section
variable {P : Program} {w : World} {K : PySem.W.Frag} {mg : Str → Option Value} {base : Heap}
/-! ### parts_of and _law_parts -/
def spParts : Sp := fun vs H Q _ => ∃ a h xs, vs = [.ref a] ∧ Lay H a h xs ∧ ∀ p H', Same H H' → H' p = some (.tup xs) → Q (.ref p) H'
abbrev sparts_of : Stmt := top 8
theorem scparts_of : FnScope ["term"] ["term"] (defScope sparts_of) := ⟨rfl, rfl, rfl, by decide +kernel, rfl, by decide +kernel, by decide +kernel⟩
theorem ok_parts {f : Addr} {fd : FuncData} (F : Fun K "parts_of" "parts_of" sparts_of f fd) : FnOk P w K mg base CX0 1 f fd ["term"] spParts := by
  refine F.ok scparts_of (fun vs H Q E h => ?_) (fun cdv A outer s H vs Q E hr h => ?_)
  · obtain ⟨a, h, xs, rfl, _⟩ := h
    rfl
  obtain ⟨a, h, xs, rfl, l, q⟩ := h
  refine ⟨_, (pss_cons (ps_if (pt_cmpR op_in_seq (pe_ix ix_tup (pv 0) pe_int (fun _ _ => rfl)) (pe_tup (pa_cons pe_str (pa_cons pe_str pa_nil))) rfl) (pss_one (ps_ret (pe_tup pa_nil))) pss_nil)
    (pss_cons (ps_if (pt_cmpR op_eq (pe_ix ix_tup (pv 0) pe_int (fun _ _ => rfl)) pe_str (nomark _)) (pss_one (ps_ret (pe_ix ix_tup (pv 0) pe_int (fun _ _ => rfl)))) pss_nil)
    (pss_cons (ps_if (pt_cmpR op_eq (pe_ix ix_tup (pv 0) pe_int (fun _ _ => rfl)) pe_str (nomark _)) (pss_one (ps_ret (pe_slice sl_tupA (pv 0) (po_some pe_int) po_none))) pss_nil)
    (pss_one (ps_ret (pe_slice sl_tupA (pv 0) (po_some pe_int) po_none)))))), ?_⟩
  obtain ⟨r, hd⟩ := l.head
  refine ⟨_, rfl, a, _, _, _, rfl, rfl, SqT.of hd, at0, sz (by show 2 ≤ 100000; decide), fun t ht => ?_⟩
  have s1 := same_new ht (.tup [.str "number", .str "name"])
  have l1 := l.mono s1
  refine ⟨t, _, rfl, .inr (SqT.of upd_same), rfl, rfl, _, rfl, ?_⟩
  cases h with
  | num z =>
    refine itT rfl ⟨sz (by decide), fun p hp => q p _ (s1.trans (same_new hp _)) ?_⟩
    rw [l.1, upd_same]
  | nam z =>
    refine itT rfl ⟨sz (by decide), fun p hp => q p _ (s1.trans (same_new hp _)) ?_⟩
    rw [l.1, upd_same]
  | ask f =>
    obtain ⟨l1, p, l2, l3⟩ := l
    refine itF rfl ⟨_, rfl, a, _, _, _, rfl, rfl, SqT.of (s1 _ _ l2), at0, rfl, _, rfl, ?_⟩
    refine itT rfl ⟨_, rfl, a, _, _, _, rfl, rfl, SqT.of (s1 _ _ l2), at2, ?_⟩
    exact q p _ s1 (s1 _ _ l3)
  | lett x =>
    refine itF rfl ⟨_, rfl, a, _, _, _, rfl, rfl, SqT.of (s1 _ _ l.2), at0, rfl, _, rfl, ?_⟩
    refine itF rfl ⟨_, rfl, a, _, _, _, rfl, rfl, SqT.of (s1 _ _ l.2), at0, rfl, _, rfl, ?_⟩
    refine itT rfl ⟨_, rfl, _, rfl, a, _, rfl, SqT.of (s1 _ _ l.2), ?_, ?_⟩
    · exact fun z => absurd z (not_whole (by decide) len2)
    · intro _ p hp
      refine q p _ (s1.trans (same_new hp _)) ?_
      rw [upd_same, cut2]
  | plus | less | tell | iff =>
    refine itF rfl ⟨_, rfl, a, _, _, _, rfl, rfl, SqT.of (s1 _ _ l.2), at0, rfl, _, rfl, ?_⟩
    refine itF rfl ⟨_, rfl, a, _, _, _, rfl, rfl, SqT.of (s1 _ _ l.2), at0, rfl, _, rfl, ?_⟩
    refine itF rfl ⟨_, rfl, _, rfl, a, _, rfl, SqT.of (s1 _ _ l.2), ?_, ?_⟩
    · exact fun z => absurd z (not_whole (by decide) len1)
    · intro _ p hp
      refine q p _ (s1.trans (same_new hp _)) ?_
      rw [upd_same, cut1]
end
end KB

namespace KB
open PySem L2

/-! ### rules and small facts -/
def repS (z : Str) (k : Int) : Str := ⟨(List.replicate k.toNat z.cps).foldl (· ++ ·) #[]⟩
def rMulS : R2 := fun x y H Q => ∃ z k, x = .str z ∧ y = .int k ∧ 1 ≤ k ∧ k ≤ 1000 ∧ 1 ≤ z.length ∧ z.length ≤ 1000 ∧ Q (.str (repS z k)) H
theorem repS_one (z : Str) : repS z 1 = z := by
  unfold repS
  show (⟨#[] ++ z.cps⟩ : Str) = z
  rw [Array.empty_append]
theorem size_rep (xs : Array Nat) : ∀ (k : Nat) (acc : Array Nat), ((List.replicate k xs).foldl (· ++ ·) acc).size = acc.size + k * xs.size
  | 0, acc => by
    rw [Nat.zero_mul]
    rfl
  | k + 1, acc => by
    rw [List.replicate_succ, List.foldl_cons, size_rep xs k, Array.size_append, Nat.succ_mul]
    omega
theorem op_mul_str {X : Cx} : OpR X (binaryOp .Mult) rMulS := by
  intro pins s σ H x y v u Q I rx ry h
  obtain ⟨z, k, rfl, rfl, h1, h2, h3, h4, q⟩ := h
  obtain ⟨t, rfl⟩ := rx
  obtain ⟨t', rfl⟩ := ry
  refine PySem.P.mul_str ?_ ?_ ?_ ?_
  · rw [decide_eq_false (by omega), decide_eq_false (by omega)]
    rfl
  · intro _ _
    have e1 : (1000 : Int) * k ≤ 1000000 := by omega
    have e2 : (9223372036854775807 : Int) / k ≥ 9223372036854775 := by
      have e3 : (9223372036854775807 : Int) / k ≥ 9223372036854775807 / 1000 := by
        refine Int.le_ediv_of_mul_le (by omega) ?_
        have : (9223372036854775807 / 1000 : Int) = 9223372036854775 := by decide
        rw [this]
        have : (9223372036854775 : Int) * k ≤ 9223372036854775 * 1000 := Int.mul_le_mul_of_nonneg_left h2 (by decide)
        omega
      have : (9223372036854775807 / 1000 : Int) = 9223372036854775 := by decide
      omega
    have e4 : ((2 : Int) ^ 63 - 1) = 9223372036854775807 := by decide
    rw [e4]
    omega
  · intro _ _
    have e : z.length * k.toNat ≤ 1000 * 1000 := Nat.mul_le_mul h4 (by omega)
    exact decide_eq_false (by show ¬ _ > sizeLine; exact Nat.not_lt.mpr (Nat.le_trans e (by decide)))
  · rw [if_neg (by omega)]
    have hz : (z.length == 0) = false := by
      rw [beq_eq_false_iff_ne]
      omega
    by_cases hk : k = 1
    · subst hk
      rw [if_pos (by rfl)]
      rw [repS_one] at q
      exact ⟨.str z, H, I, ⟨t, rfl⟩, q⟩
    · have hk2 : (k == 1) = false := by
        rw [beq_eq_false_iff_ne]
        exact hk
      rw [if_neg (by rw [hk2, hz]; decide)]
      have e : z.length * k.toNat ≤ 1000 * 1000 := Nat.mul_le_mul h4 (by omega)
      have e2 := size_rep z.cps k.toNat #[]
      refine ⟨?_, .str (repS z k), H, I.tok _, ⟨_, rfl⟩, q⟩
      show (List.foldl (fun x1 x2 => x1 ++ x2) #[] (List.replicate k.toNat z.cps)).size ≤ sizeLine
      rw [e2, Nat.mul_comm]
      show 0 + z.length * k.toNat ≤ sizeLine
      rw [Nat.zero_add]
      exact Nat.le_trans e (by decide)

/-! ### stacks of terms -/
def Stk (H : Hp) : List V → List Tm → Prop
  | [], [] => True
  | v :: vs, t :: ts => (∃ b, v = .ref b ∧ At H t b) ∧ Stk H vs ts
  | _, _ => False
theorem Stk.mono {H H' : Hp} (e : Same H H') : ∀ {vs : List V} {ts : List Tm}, Stk H vs ts → Stk H' vs ts
  | [], [], _ => trivial
  | _ :: _, _ :: _, h => ⟨let ⟨b, e1, h1⟩ := h.1; ⟨b, e1, h1.mono e⟩, Stk.mono e h.2⟩
  | [], _ :: _, h => h.elim
  | _ :: _, [], h => h.elim
theorem Stk.app {H : Hp} : ∀ {vs us : List V} {ts ss : List Tm}, Stk H vs ts → Stk H us ss → Stk H (vs ++ us) (ts ++ ss)
  | [], _, [], _, _, k => k
  | _ :: _, _, _ :: _, _, h, k => ⟨h.1, Stk.app h.2 k⟩
  | [], _, _ :: _, _, h, _ => h.elim
  | _ :: _, _, [], _, h, _ => h.elim
theorem Stk.rev {H : Hp} : ∀ {vs : List V} {ts : List Tm}, Stk H vs ts → Stk H vs.reverse ts.reverse
  | [], [], _ => trivial
  | v :: vs, t :: ts, h => by
    rw [List.reverse_cons, List.reverse_cons]
    exact Stk.app (Stk.rev h.2) ⟨h.1, trivial⟩
  | [], _ :: _, h => h.elim
  | _ :: _, [], h => h.elim
theorem Stk.len {H : Hp} : ∀ {vs : List V} {ts : List Tm}, Stk H vs ts → vs.length = ts.length
  | [], [], _ => rfl
  | _ :: _, _ :: _, h => congrArg (· + 1) (Stk.len h.2)
  | [], _ :: _, h => h.elim
  | _ :: _, [], h => h.elim
theorem Stk.fn {H : Hp} : ∀ {n : Nat} {ys : Fin n → Addr} {k : Fin n → Tm}, (∀ i, At H (k i) (ys i)) → Stk H (Rfs ys) (List.ofFn k)
  | 0, _, _, _ => trivial
  | n + 1, ys, k, h => by
    unfold Rfs
    rw [List.ofFn_succ, List.ofFn_succ]
    exact ⟨⟨_, rfl, h 0⟩, Stk.fn (ys := fun i => ys i.succ) (k := fun i => k i.succ) fun i => h i.succ⟩
def cnts (ts : List Tm) : Nat := (ts.map cnt).sum
theorem cnts_app (a b : List Tm) : cnts (a ++ b) = cnts a + cnts b := by
  unfold cnts
  rw [List.map_append, List.sum_append]
theorem cnts_rev (a : List Tm) : cnts a.reverse = cnts a := by
  induction a with
  | nil => rfl
  | cons x r ih =>
    rw [List.reverse_cons, cnts_app, ih]
    unfold cnts
    simp only [List.map_cons, List.map_nil, List.sum_cons, List.sum_nil]
    omega
theorem cnt_mk {h : Hd} {n : Nat} {k : Fin n → Tm} : cnt (.mk h n k) = 1 + cnts (List.ofFn k) := by
  show 1 + (List.ofFn fun i => cnt (k i)).sum = 1 + ((List.ofFn k).map cnt).sum
  rw [List.map_ofFn]
  rfl
theorem cnts_cons {t : Tm} {r : List Tm} : cnts (t :: r) = cnt t + cnts r := rfl
theorem cnt_pos : ∀ t : Tm, 1 ≤ cnt t
  | .mk _ _ _ => by rw [cnt_mk]; omega
theorem len_cnts : ∀ ts : List Tm, ts.length ≤ cnts ts
  | [] => Nat.le_refl _
  | t :: r => by
    have h1 := cnt_pos t
    have h2 := len_cnts r
    rw [cnts_cons, List.length_cons]
    omega

section
variable {P : Program} {w : World} {K : PySem.W.Frag} {mg : Str → Option Value} {base : Heap}
theorem same_mut {H H' : Hp} {p : Addr} {o : HO} (e : Same H H') (h : H p = none) : Same H (upd H' p o) := fun a u ha => by
  rw [upd_ne (ne_of_none ha h)]
  exact e _ _ ha
/-- a list rewritten leaves the terms -/
theorem Lay.put {H : Hp} {l : Addr} {xs ys : List V} (hl : H l = some (.lst xs)) {a : Addr} {h : Hd} {us : List V} (q : Lay H a h us) : Lay (upd H l (.lst ys)) a h us := by
  have go : ∀ {b : Addr} {zs : List V}, H b = some (.tup zs) → upd H l (.lst ys) b = some (.tup zs) := fun {b zs} z => by
    rw [upd_ne (ne_of z hl (by intro e; cases e))]
    exact z
  cases h with
  | ask f => obtain ⟨z, p, h1, h2⟩ := q; exact ⟨z, p, go h1, go h2⟩
  | _ => exact ⟨q.1, go q.2⟩
theorem At.put {H : Hp} {l : Addr} {xs ys : List V} (hl : H l = some (.lst xs)) : ∀ {t : Tm} {a : Addr}, At H t a → At (upd H l (.lst ys)) t a := by
  intro t
  induction t with
  | mk h n k ih =>
    rintro a ⟨zs, q, r⟩
    exact ⟨zs, q.put hl, fun i => ih i (r i)⟩
theorem Stk.put {H : Hp} {l : Addr} {xs ys : List V} (hl : H l = some (.lst xs)) : ∀ {vs : List V} {ts : List Tm}, Stk H vs ts → Stk (upd H l (.lst ys)) vs ts
  | [], [], _ => trivial
  | _ :: _, _ :: _, h => ⟨let ⟨b, e1, h1⟩ := h.1; ⟨b, e1, h1.put hl⟩, Stk.put hl h.2⟩
  | [], _ :: _, h => h.elim
  | _ :: _, [], h => h.elim
end
end KB

namespace KB
open PySem L2

/-! ### what leaves the tuples -/
def TK (H H' : Hp) : Prop := ∀ a xs, H a = some (.tup xs) → H' a = some (.tup xs)
theorem TK.refl (H : Hp) : TK H H := fun _ _ h => h
theorem TK.trans {H H1 H2 : Hp} (a : TK H H1) (b : TK H1 H2) : TK H H2 := fun x o h => b x o (a x o h)
theorem tk_same {H H' : Hp} (e : Same H H') : TK H H' := fun a _ h => e a _ h
theorem tk_put {H : Hp} {l : Addr} {xs : List V} {o : HO} (hl : H l = some (.lst xs)) : TK H (upd H l o) := fun a zs z => by
  rw [upd_ne (ne_of z hl (by intro e; cases e))]
  exact z
theorem Lay.tk {H H' : Hp} (e : TK H H') {a : Addr} {h : Hd} {xs : List V} (l : Lay H a h xs) : Lay H' a h xs := by
  cases h with
  | ask f => obtain ⟨z, p, h1, h2⟩ := l; exact ⟨z, p, e _ _ h1, e _ _ h2⟩
  | _ => exact ⟨l.1, e _ _ l.2⟩
theorem At.tk {H H' : Hp} (e : TK H H') : ∀ {t : Tm} {a : Addr}, At H t a → At H' t a := by
  intro t
  induction t with
  | mk h n k ih =>
    rintro a ⟨ys, l, r⟩
    exact ⟨ys, l.tk e, fun i => ih i (r i)⟩

theorem Stk.tk {H H' : Hp} (e : TK H H') : ∀ {vs : List V} {ts : List Tm}, Stk H vs ts → Stk H' vs ts
  | [], [], _ => trivial
  | _ :: _, _ :: _, h => ⟨let ⟨b, e1, h1⟩ := h.1; ⟨b, e1, h1.tk e⟩, Stk.tk e h.2⟩
  | [], _ :: _, h => h.elim
  | _ :: _, [], h => h.elim
theorem Stk.get {H : Hp} : ∀ {vs : List V} {ts : List Tm} {i : Nat} {v : V}, Stk H vs ts → vs[i]? = some v → ∃ t, ts[i]? = some t ∧ ∃ b, v = .ref b ∧ At H t b
  | [], [], _, _, _, e => by simp at e
  | x :: vs, t :: ts, 0, v, h, e => ⟨t, rfl, by
    have e' : x = v := by simpa using e
    subst e'
    exact h.1⟩
  | x :: vs, t :: ts, i + 1, v, h, e => by
    obtain ⟨b, h1, h2⟩ := Stk.get (i := i) (v := v) h.2 (by simpa using e)
    exact ⟨b, by simpa using h1, h2⟩
  | [], _ :: _, _, _, h, _ => h.elim
  | _ :: _, [], _, _, h, _ => h.elim

/-! ### two lists, item by item -/
def All2 {α : Type} (R : α → V → Prop) : List α → List V → Prop
  | [], [] => True
  | a :: as, v :: vs => R a v ∧ All2 R as vs
  | _, _ => False
theorem All2.imp {α : Type} {R S : α → V → Prop} (e : ∀ a v, R a v → S a v) : ∀ {as : List α} {vs : List V}, All2 R as vs → All2 S as vs
  | [], [], _ => trivial
  | _ :: _, _ :: _, h => ⟨e _ _ h.1, All2.imp e h.2⟩
  | [], _ :: _, h => h.elim
  | _ :: _, [], h => h.elim
theorem All2.app {α : Type} {R : α → V → Prop} : ∀ {as bs : List α} {vs ws : List V}, All2 R as vs → All2 R bs ws → All2 R (as ++ bs) (vs ++ ws)
  | [], _, [], _, _, k => k
  | _ :: _, _, _ :: _, _, h, k => ⟨h.1, All2.app h.2 k⟩
  | [], _, _ :: _, _, h, _ => h.elim
  | _ :: _, _, [], _, h, _ => h.elim
theorem All2.len {α : Type} {R : α → V → Prop} : ∀ {as : List α} {vs : List V}, All2 R as vs → vs.length = as.length
  | [], [], _ => rfl
  | _ :: _, _ :: _, h => congrArg (· + 1) (All2.len h.2)
  | [], _ :: _, h => h.elim
  | _ :: _, [], h => h.elim
theorem All2.get {α : Type} {R : α → V → Prop} : ∀ {as : List α} {vs : List V} {i : Nat} {v : V}, All2 R as vs → vs[i]? = some v → ∃ a, as[i]? = some a ∧ R a v
  | [], [], _, _, _, e => by simp at e
  | a :: as, x :: vs, 0, v, h, e => ⟨a, rfl, by
    have e' : x = v := by simpa using e
    subst e'
    exact h.1⟩
  | a :: as, x :: vs, i + 1, v, h, e => by
    obtain ⟨b, h1, h2⟩ := All2.get (i := i) (v := v) h.2 (by simpa using e)
    exact ⟨b, by simpa using h1, h2⟩
  | [], _ :: _, _, _, h, _ => h.elim
  | _ :: _, [], _, _, h, _ => h.elim

end KB

namespace KB
open PySem L2

/-! ### books -/
abbrev Er := Str × List Str × Tm
def ErV (H : Hp) (e : Er) (v : V) : Prop := ∃ q r b, v = .ref q ∧ H q = some (.tup [.str e.1, .ref r, .ref b]) ∧ H r = some (.tup (e.2.1.map V.str)) ∧ At H e.2.2 b
theorem ErV.tk {H H' : Hp} (t : TK H H') {e : Er} {v : V} (h : ErV H e v) : ErV H' e v :=
  let ⟨q, r, b, e1, h1, h2, h3⟩ := h; ⟨q, r, b, e1, t _ _ h1, t _ _ h2, h3.tk t⟩
def BkAt (H : Hp) (es : List Er) (vs : List V) (p : Addr) : Prop := H p = some (.tup vs) ∧ All2 (ErV H) es vs
theorem BkAt.tk {H H' : Hp} (t : TK H H') {es : List Er} {vs : List V} {p : Addr} (h : BkAt H es vs p) : BkAt H' es vs p := ⟨t _ _ h.1, h.2.imp fun _ _ z => z.tk t⟩
theorem All2.map {α β : Type} {R : β → V → Prop} {f : α → β} : ∀ {as : List α} {vs : List V}, All2 (fun a v => R (f a) v) as vs → All2 R (as.map f) vs
  | [], [], _ => trivial
  | _ :: _, _ :: _, h => ⟨h.1, All2.map h.2⟩
  | [], _ :: _, h => h.elim
  | _ :: _, [], h => h.elim

section
variable {P : Program} {w : World} {K : PySem.W.Frag} {mg : Str → Option Value} {base : Heap}
theorem mem_of_get {α : Type} {l : List α} {i : Nat} {a : α} (h : l[i]? = some a) : a ∈ l := List.mem_of_getElem? h
/-! ### errand_named -/
def spNamed : Sp := fun vs H Q _ => ∃ (p : Addr) (es : List Er) (us : List V) (f : Str) (i : Nat) (v : V), vs = [.ref p, .str f] ∧ BkAt H es us p ∧ us[i]? = some v ∧ (∀ j e, es[j]? = some e → (e.1 = f ↔ j = i)) ∧ Q v H
abbrev serrand_named : Stmt := top 10
theorem scerrand_named : FnScope ["book", "f", "errand"] ["book", "f"] (defScope serrand_named) := ⟨rfl, rfl, rfl, by decide +kernel, rfl, by decide +kernel, by decide +kernel⟩
theorem ok_named {f : Addr} {fd : FuncData} (F : Fun K "errand_named" "errand_named" serrand_named f fd) : FnOk P w K mg base CX0 1 f fd ["book", "f"] spNamed := by
  refine F.ok scerrand_named (fun vs H Q E h => ?_) (fun cdv A outer s H vs Q E hr h => ?_)
  · obtain ⟨p, es, us, f, i, v, rfl, _⟩ := h
    rfl
  obtain ⟨p, es, us, nm, i, v, rfl, hB, hv, hu, q⟩ := h
  refine ⟨_, (pss_cons (ps_for PassesOwn.never rfl (pi_tup (pv 0)) (pg_name (i := 2) scerrand_named.nd rfl (Or.inl rfl)) (pss_one (ps_if (pt_cmpR op_eq (pe_ix ix_tup (pv 2) pe_int (fun _ _ => rfl)) (pv 1) (nomark _)) (pss_one (ps_ret (pv 2))) pss_nil)))
    (pss_one (ps_ret pe_non))), ?_⟩
  have hi := (List.getElem?_eq_some_iff.mp hv).1
  refine ⟨_, rfl, p, rfl, ⟨_, SqT.of hB.1⟩, for_tup (xs := us) (fun j σ H' => ∃ o, σ = [some (.ref p), some (.str nm), o] ∧ H' = H ∧ j ≤ i) ⟨_, rfl, rfl, Nat.zero_le _⟩ ?_ ?_ ?_⟩
  · rintro j σ H' _ ⟨o, rfl, rfl, _⟩
    exact SqT.of hB.1
  · rintro j x σ H' hx ⟨o, rfl, rfl, hj⟩
    obtain ⟨e, he, qa, r, b, rfl, g1, g2, g3⟩ := hB.2.get hx
    refine ⟨_, rfl, qa, _, _, _, rfl, rfl, SqT.of g1, at0, _, rfl, rfl, _, rfl, ?_⟩
    by_cases c : e.1 = nm
    · refine itT (decide_eq_true (congrArg V.str c)) ⟨_, rfl, ?_⟩
      have ej := (hu j e he).mp c
      subst ej
      rw [hx] at hv
      cases hv
      exact q
    · refine itF (decide_eq_false fun z => c (V.str.inj z)) ⟨_, rfl, rfl, ?_⟩
      have : j ≠ i := fun z => c ((hu j e he).mpr z)
      omega
  · rintro σ H' ⟨o, rfl, rfl, hj⟩
    omega

end
end KB

namespace KB
open PySem L2

theorem catA_of {K : PySem.W.Frag} {H : Hp} {a b : Addr} {xs ys : List V} {Q : VK} (ha : H a = some (.tup xs)) (hb : H b = some (.tup ys)) (hl : xs.length + ys.length ≤ 100000)
    (q : ∀ p H', Same H H' → H' p = some (.tup (xs ++ ys)) → Q (.ref p) H') : rCatA K (.ref a) (.ref b) H Q := by
  refine ⟨a, b, xs, ys, rfl, rfl, SqT.of ha, SqT.of hb, sz hl, fun z => ?_, fun _ z => ?_, fun _ _ p hp => ?_⟩
  · refine q b H (Same.refl H) ?_
    rw [z]
    exact hb
  · refine q a H (Same.refl H) ?_
    rw [z, List.append_nil]
    exact ha
  · exact q p _ (same_new hp _) upd_same
theorem cnt_mem {t : Tm} {ts : List Tm} (h : t ∈ ts) : cnt t ≤ cnts ts := by
  induction ts with
  | nil => cases h
  | cons a r ih =>
    rw [cnts_cons]
    rcases List.mem_cons.mp h with z | z
    · subst z
      omega
    · have := ih z
      omega
theorem cnts_take (ts : List Tm) (i : Nat) : cnts (ts.take i) ≤ cnts ts := by
  have e : cnts ts = cnts (ts.take i) + cnts (ts.drop i) := by rw [← cnts_app, List.take_append_drop]
  omega
def letsL (ts : List Tm) : List Str := (ts.map letsOf).flatten
def hdLets : Hd → List Str
  | .lett x => [x]
  | _ => []
theorem hdLets_le (h : Hd) : (hdLets h).length ≤ 1 := by
  cases h with
  | lett x => exact Nat.le_refl 1
  | _ => exact Nat.zero_le 1
theorem lets_mk {h : Hd} {n : Nat} {k : _root_.Fin n → Tm} : letsOf (.mk h n k) = hdLets h ++ letsL (List.ofFn k) := by
  have e : (List.ofFn fun i => letsOf (k i)) = (List.ofFn k).map letsOf := (List.map_ofFn ..).symm
  unfold letsL
  rw [← e]
  cases h <;> rfl
theorem lets_len : ∀ t : Tm, (letsOf t).length ≤ cnt t := by
  have go : ∀ ts : List Tm, (∀ t ∈ ts, (letsOf t).length ≤ cnt t) → (letsL ts).length ≤ cnts ts := by
    intro ts
    induction ts with
    | nil => intro _; exact Nat.le_refl _
    | cons a r ih =>
      intro h
      have h1 := h a List.mem_cons_self
      have h2 := ih fun u hu => h u (List.mem_cons_of_mem _ hu)
      have e : letsL (a :: r) = letsOf a ++ letsL r := by
        unfold letsL
        rw [List.map_cons, List.flatten_cons]
      rw [e, List.length_append, cnts_cons]
      omega
  intro t
  induction t with
  | mk h n k ih =>
    have := go (List.ofFn k) fun t ht => by
      obtain ⟨i, rfl⟩ := List.mem_ofFn.mp ht
      exact ih i
    rw [lets_mk, cnt_mk, List.length_append]
    have : (hdLets h).length ≤ 1 := hdLets_le h
    omega
theorem letsL_take {ts : List Tm} {i : Nat} {t : Tm} (h : ts[i]? = some t) : letsL (ts.take (i + 1)) = letsL (ts.take i) ++ letsOf t := by
  obtain ⟨hi, he⟩ := List.getElem?_eq_some_iff.mp h
  unfold letsL
  rw [List.take_succ_eq_append_getElem hi, List.map_append, List.flatten_append, he]
  simp

end KB

namespace KB
open PySem L2

/-! ### words as the program has them -/
def keptW : List Str := ["let", "be", "in", "tell", "if", "then", "else", "home", "zyzzyva"]
def small (c : Nat) : Bool := decide (97 ≤ c) && decide (c ≤ 122)
def isW (z : Str) : Bool := !keptW.contains z && (decide (1 ≤ z.length) && decide (z.length ≤ 8)) && z.cps.toList.all small
theorem isW_ok {z : Str} (h : isW z = true) : PySem.PyData.strOk z = true := by
  unfold isW at h
  rw [Bool.and_eq_true] at h
  have h2 := h.2
  rw [List.all_eq_true] at h2
  unfold PySem.PyData.strOk
  rw [← Array.all_toList, List.all_eq_true]
  intro c hc
  have := h2 c hc
  unfold small at this
  rw [Bool.and_eq_true] at this
  have := of_decide_eq_true this.2
  exact decide_eq_true (by omega)
theorem isW_len {z : Str} (h : isW z = true) : z.length ≤ 8 := by
  unfold isW at h
  rw [Bool.and_eq_true, Bool.and_eq_true, Bool.and_eq_true] at h
  exact of_decide_eq_true h.1.2.2
/-! ### the tape and lists of words -/
def But1 (tp : Addr) (H H' : Hp) : Prop := ∀ b o, b ≠ tp → H b = some o → H' b = some o
def Tp (H : Hp) (tp : Addr) : Prop := ∃ z, H tp = some (.lst [.int z])
theorem But1.refl (tp : Addr) (H : Hp) : But1 tp H H := fun _ _ _ h => h
theorem But1.trans {tp : Addr} {H H1 H2 : Hp} (a : But1 tp H H1) (b : But1 tp H1 H2) : But1 tp H H2 := fun x o n h => b x o n (a x o n h)
theorem but_same {tp : Addr} {H H' : Hp} (e : Same H H') : But1 tp H H' := fun b o _ h => e b o h
theorem But1.tk {tp : Addr} {H H' : Hp} (ht : Tp H tp) (e : But1 tp H H') : TK H H' := fun a xs h => by
  obtain ⟨z, hz⟩ := ht
  exact e a _ (ne_of h hz (by intro q; cases q)) h
/-- a list of words -/
def Wls (H : Hp) (a : Addr) (xs : List Str) : Prop := H a = some (.lst (xs.map V.str)) ∧ ∀ x ∈ xs, isW x = true
theorem wls_tp {H : Hp} {a tp : Addr} {xs : List Str} (h : H a = some (.lst (xs.map V.str))) (t : Tp H tp) : a ≠ tp := by
  rintro rfl
  obtain ⟨z, hz⟩ := t
  rw [h] at hz
  have e := HO.lst.inj (Option.some.inj hz)
  cases xs with
  | nil => cases e
  | cons x r =>
    rw [List.map_cons] at e
    cases (List.cons.inj e).1
theorem Wls.but {tp a : Addr} {H H' : Hp} {xs : List Str} (e : But1 tp H H') (t : Tp H tp) (h : Wls H a xs) : Wls H' a xs := ⟨e _ _ (wls_tp h.1 t) h.1, h.2⟩
theorem dp_strs {K : PySem.W.Frag} {H : Hp} : ∀ xs : List Str, DpAll K H (xs.map V.str) (xs.map PyData.str)
  | [] => .nil
  | x :: r => .cons (.str x) (dp_strs r)
theorem lay_strs : ∀ {xs : List Str}, (∀ x ∈ xs, PySem.PyData.strOk x = true) → PySem.PyData.canLayAll0 (xs.map PyData.str) = true
  | [], _ => rfl
  | x :: r, h => by
    show (PySem.PyData.strOk x && PySem.PyData.canLayAll0 (r.map PyData.str)) = true
    rw [h x List.mem_cons_self, lay_strs fun y hy => h y (List.mem_cons_of_mem _ hy)]
    rfl
theorem shaped_of {d : PyData} (h1 : d.canLay0 = true) (h2 : d.depth ≤ 64) : SeqAt.shaped d = true := Bool.and_eq_true_iff.mpr ⟨h1, decide_eq_true h2⟩
theorem depth_strs : ∀ xs : List Str, PySem.PyData.depthAll (xs.map PyData.str) = 0
  | [] => rfl
  | x :: r => by
    show max (PySem.PyData.depth (.str x)) (PySem.PyData.depthAll (r.map PyData.str)) = 0
    rw [depth_strs r]
    rfl
theorem shaped_strs {xs : List Str} (h : ∀ x ∈ xs, isW x = true) : SeqAt.shaped (.list (xs.map PyData.str)) = true := by
  refine shaped_of (lay_strs fun x hx => isW_ok (h x hx)) ?_
  show PySem.PyData.depthAll (xs.map PyData.str) + 1 ≤ 64
  rw [depth_strs]
  decide
theorem eqv_nil (xs : List Str) : PyData.eqv (.list (xs.map PyData.str)) (.list []) = xs.isEmpty := by
  cases xs <;> rfl

section
variable {P : Program} {w : World} {K : PySem.W.Frag} {mg : Str → Option Value} {base : Heap}
/-! ### _law_cell_at -/
def spCell (K : PySem.W.Frag) : Sp := fun vs H Q _ => ∃ (a : Addr) (ns : List Int) (k : Int), vs = [.ref a, .int k] ∧ SqL K H a (ns.map V.int) ∧ 0 ≤ k ∧ ∀ z, Q (.int z) H
abbrev s_law_cell_at : Stmt := top 30
theorem scLcell_at : FnScope ["script", "k"] ["script", "k"] (defScope s_law_cell_at) := ⟨rfl, rfl, rfl, by decide +kernel, rfl, by decide +kernel, by decide +kernel⟩
theorem ok_cell (T : Txt K mg) {f : Addr} {fd : FuncData} (F : Fun K "_law_cell_at" "_law_cell_at" s_law_cell_at f fd) : FnOk P w K mg base CX0 1 f fd ["script", "k"] (spCell K) := by
  refine F.ok scLcell_at (fun vs H Q E h => ?_) (fun cdv A outer s H vs Q E hr h => ?_)
  · obtain ⟨a, ns, k, rfl, _⟩ := h
    rfl
  obtain ⟨a, ns, k, rfl, hS, h0, q⟩ := h
  refine ⟨_, (pss_cons (ps_if (pt_cmpR op_lt (pv 1) (pe_callB call_len_seq (by rfl) T.m_len PySem.boot_len (pa_cons (pv 0) pa_nil)) (nomark _)) (pss_one (ps_ret (pe_ix ix_list (pv 0) (pv 1) (fun _ _ => rfl)))) pss_nil)
    (pss_one (ps_ret pe_int))), ?_⟩
  refine ⟨_, rfl, _, rfl, a, _, rfl, .inl hS, _, _, rfl, rfl, _, rfl, ?_⟩
  refine ite2 (fun c => ?_) (fun c => ?_)
  · have c' : k < (((ns.map V.int).length : Nat) : Int) := of_decide_eq_true c
    rw [List.length_map] at c'
    have hk : k.toNat < ns.length := by omega
    refine ⟨_, rfl, _, rfl, a, _, _, .int ns[k.toNat], rfl, rfl, hS, at_of (j := k.toNat) (by omega) ?_, q _⟩
    rw [List.getElem?_map, List.getElem?_eq_getElem hk]
    rfl
  · exact q 0
/-! ### _law_tape -/
def spTape (K : PySem.W.Frag) : Sp := fun vs H Q _ => ∃ (a : Addr) (ns : List Int) (k : Int), vs = [.ref a, .int k] ∧ SqL K H a (ns.map V.int) ∧ 0 ≤ k ∧ k ≤ 1000 ∧ ∀ p z, H p = none → Q (.ref p) (upd H p (.lst [.int z]))
abbrev s_law_tape : Stmt := top 31
theorem scLtape : FnScope ["script", "k", "cell", "p", "one", "found", "turn"] ["script", "k"] (defScope s_law_tape) := ⟨rfl, rfl, rfl, by decide +kernel, rfl, by decide +kernel, by decide +kernel⟩
theorem ok_tape (T : Txt K mg) {f g : Addr} {fd gd : FuncData} (F : Fun K "_law_tape" "_law_tape" s_law_tape f fd) (G_law_cell_at : FnOk P w K mg base CX0 1 g gd ["script", "k"] (spCell K)) (R_law_cell_at : Ref K mg "_law_cell_at" g gd ["script", "k"]) : FnOk P w K mg base CX0 2 f fd ["script", "k"] (spTape K) := by
  refine F.ok scLtape (fun vs H Q E h => ?_) (fun cdv A outer s H vs Q E hr h => ?_)
  · obtain ⟨a, ns, k, rfl, _⟩ := h
    rfl
  obtain ⟨a, ns, k, rfl, hS, h0, h1, q⟩ := h
  refine ⟨_, (pss_cons (ps_set (i := 2) scLtape.nd rfl (Or.inl rfl) (pe_call G_law_cell_at hr rfl R_law_cell_at.m R_law_cell_at.k R_law_cell_at.b .nil pass0 (pa_cons (pv 0) (pa_cons (pv 1) pa_nil))))
    (pss_cons (ps_if (pt_cmpR op_eq (pv 2) pe_int (nomark _)) (pss_one (ps_ret (pe_lst (pa_cons pe_int pa_nil)))) pss_nil)
    (pss_cons (ps_if (pt_cmpR op_ge (pv 2) (pe_op op_pow pe_int pe_int) (nomark _)) (pss_one (ps_ret (pe_lst (pa_cons (pe_op op_sub (pv 2) (pe_op op_pow pe_int pe_int)) pa_nil)))) pss_nil)
    (pss_cons (ps_set (i := 3) scLtape.nd rfl (Or.inl rfl) pe_int)
    (pss_cons (ps_set (i := 4) scLtape.nd rfl (Or.inl rfl) (pe_op op_mod (pe_op op_add (pe_op op_add (pe_op op_mul (pv 2) pe_int) (pe_op op_mul pe_int (pv 1))) pe_int) (pv 3)))
    (pss_cons (ps_set (i := 5) scLtape.nd rfl (Or.inl rfl) (pv 4))
    (pss_cons (ps_for PassesOwn.never rfl (pi_range1 rfl T.m_range (pa_cons pe_int pa_nil)) (pg_name (i := 6) scLtape.nd rfl (Or.inl rfl)) (pss_cons (ps_set (i := 4) scLtape.nd rfl (Or.inl rfl) (pe_op op_mod (pe_op op_add (pe_op op_add (pe_op op_add (pe_op op_mul (pv 4) (pv 4)) (pe_op op_mul pe_int (pv 6))) (pv 2)) pe_int) (pv 3)))
    (pss_one (ps_set (i := 5) scLtape.nd rfl (Or.inl rfl) (pe_op op_add (pe_op op_mul (pv 5) (pv 3)) (pv 4))))))
    (pss_one (ps_ret (pe_lst (pa_cons (pv 5) pa_nil))))))))))), ?_⟩
  have b1 : ∀ x : Int, 0 ≤ x → x < 2305843009213693951 → -(2 ^ 64) < x ∧ x < 2 ^ 64 := fun x h1 h2 => by
    have e : (2 : Int) ^ 64 = 18446744073709551616 := by decide
    rw [e]
    omega
  refine ⟨_, rfl, _, rfl, a, ns, k, rfl, hS, h0, fun z => ?_⟩
  refine ⟨_, rfl, rfl, _, rfl, ?_⟩
  refine ite2 (fun c => ?_) (fun c => ?_)
  · exact ⟨sz (by show 1 ≤ 100000; decide), fun p hp => q p 0 hp⟩
  refine ⟨_, rfl, _, _, rfl, rfl, ⟨by decide, by decide, by decide⟩, _, _, rfl, rfl, _, rfl, ?_⟩
  refine ite2 (fun c => ?_) (fun c => ?_)
  · exact ⟨_, rfl, _, _, rfl, rfl, ⟨by decide, by decide, by decide⟩, _, _, rfl, rfl, sz (by show 1 ≤ 100000; decide), fun p hp => q p _ hp⟩
  refine ⟨_, rfl, _, _, rfl, rfl, .inr ⟨by decide, by decide⟩, _, rfl, _, _, rfl, rfl, .inl ⟨by decide, by decide⟩, _, _, rfl, rfl, _, _, rfl, rfl, _, rfl, _, _, rfl, rfl, (by show (0 : Int) < 2305843009213693951; decide), ?_⟩
  refine ⟨_, rfl, ?_⟩
  refine ⟨20, rfl, by decide, by decide, for_range (lo := 0) (n := 20) (fun i σ H' => ∃ one found o, σ = [some (.ref a), some (.int k), some (.int z), some (.int 2305843009213693951), some (.int one), some (.int found), o] ∧ H' = H ∧ 0 ≤ one ∧ one < 2305843009213693951) ?_ ?_ ?_⟩
  · exact ⟨_, _, _, rfl, rfl, Int.emod_nonneg _ (by decide), Int.emod_lt_of_pos _ (by decide)⟩
  · rintro i σ H' hi ⟨one, found, o, rfl, rfl, g0, g1⟩
    refine ⟨_, rfl, _, rfl, _, _, rfl, rfl, .inl (b1 one g0 g1), _, rfl, _, _, rfl, rfl, .inl ⟨by decide, by decide⟩, _, _, rfl, rfl, _, rfl, _, _, rfl, rfl, _, _, rfl, rfl, _, rfl, _, _, rfl, rfl, (by show (0 : Int) < 2305843009213693951; decide), ?_⟩
    refine ⟨_, rfl, _, rfl, _, _, rfl, rfl, .inr ⟨by decide, by decide⟩, _, rfl, _, _, rfl, rfl, ?_⟩
    exact ⟨_, _, _, rfl, rfl, Int.emod_nonneg _ (by decide), Int.emod_lt_of_pos _ (by decide)⟩
  · rintro σ H' ⟨one, found, o, rfl, rfl, g0, g1⟩
    exact ⟨_, rfl, sz (by show 1 ≤ 100000; decide), fun p hp => q p _ hp⟩
/-! ### _law_digit -/
def spDig : Sp := fun vs H Q _ => ∃ (tp : Addr) (many : Int), vs = [.ref tp, .int many] ∧ Tp H tp ∧ 0 < many ∧ many ≤ 100000000000000000000000000000000000000000000000000000000000 ∧ ∀ r H', 0 ≤ r → r < many → But1 tp H H' → Tp H' tp → Q (.int r) H'
theorem log_many {m : Int} (h0 : 0 < m) (h1 : m ≤ 100000000000000000000000000000000000000000000000000000000000) : m.natAbs.log2 < 9000 := by
  refine PySem.Flt.log2_lt_of (by decide) (Nat.lt_of_le_of_lt (m := 100000000000000000000000000000000000000000000000000000000000) (by omega) ?_)
  exact Nat.lt_of_lt_of_le (m := 2 ^ 200) (by decide) (Nat.pow_le_pow_right (by decide) (by decide))
abbrev s_law_digit : Stmt := top 32
theorem scLdigit : FnScope ["tape", "many", "found"] ["tape", "many"] (defScope s_law_digit) := ⟨rfl, rfl, rfl, by decide +kernel, rfl, by decide +kernel, by decide +kernel⟩
theorem ok_dig {f : Addr} {fd : FuncData} (F : Fun K "_law_digit" "_law_digit" s_law_digit f fd) : FnOk P w K mg base CX0 1 f fd ["tape", "many"] spDig := by
  refine F.ok scLdigit (fun vs H Q E h => ?_) (fun cdv A outer s H vs Q E hr h => ?_)
  · obtain ⟨tp, many, rfl, _⟩ := h
    rfl
  obtain ⟨tp, many, rfl, ⟨z, hz⟩, h0, h1, q⟩ := h
  refine ⟨_, (pss_cons (ps_set (i := 2) scLdigit.nd rfl (Or.inl rfl) (pe_op op_mod (pe_ix ix_list (pv 0) pe_int (fun _ _ => rfl)) (pv 1)))
    (pss_cons (ps_asg (pe_op op_fdivW (pe_ix ix_list (pv 0) pe_int (fun _ _ => rfl)) (pv 1)) (pg_sub (pv 0) pe_int set_list))
    (pss_one (ps_ret (pv 2))))), ?_⟩
  refine ⟨_, rfl, tp, _, _, _, rfl, rfl, SqL.of hz, at0, _, rfl, _, _, rfl, rfl, h0, ?_⟩
  refine ⟨_, rfl, tp, _, _, _, rfl, rfl, SqL.of hz, at0, _, rfl, _, _, rfl, rfl, ⟨h0, log_many h0 h1⟩, ?_⟩
  refine ⟨_, rfl, tp, _, _, 0, rfl, rfl, hz, rfl, ?_⟩
  refine ⟨_, rfl, q _ _ (Int.emod_nonneg _ (by omega)) (Int.emod_lt_of_pos _ h0) (fun b o n h => ?_) ⟨_, upd_same⟩⟩
  rw [upd_ne n]
  exact h
/-! ### _law_number -/
def spNum : Sp := fun vs H Q _ => ∃ (tp : Addr), vs = [.ref tp] ∧ Tp H tp ∧ ∀ r H', But1 tp H H' → Tp H' tp → Q (.int r) H'
abbrev s_law_number : Stmt := top 34
theorem scLnumber : FnScope ["tape", "way"] ["tape"] (defScope s_law_number) := ⟨rfl, rfl, rfl, by decide +kernel, rfl, by decide +kernel, by decide +kernel⟩
theorem at_some {xs : List V} {i : Int} (h0 : 0 ≤ i) (h1 : i < (xs.length : Int)) : ∃ v, atI xs i = some v ∧ v ∈ xs := by
  have h : i.toNat < xs.length := by omega
  exact ⟨xs[i.toNat], at_of (j := i.toNat) (by omega) (List.getElem?_eq_getElem h), List.getElem_mem h⟩
theorem ok_num {f g : Addr} {fd gd : FuncData} (F : Fun K "_law_number" "_law_number" s_law_number f fd) (G_law_digit : FnOk P w K mg base CX0 1 g gd ["tape", "many"] spDig) (R_law_digit : Ref K mg "_law_digit" g gd ["tape", "many"]) : FnOk P w K mg base CX0 2 f fd ["tape"] spNum := by
  refine F.ok scLnumber (fun vs H Q E h => ?_) (fun cdv A outer s H vs Q E hr h => ?_)
  · obtain ⟨tp, rfl, _⟩ := h
    rfl
  obtain ⟨tp, rfl, ht, q⟩ := h
  refine ⟨_, (pss_cons (ps_set (i := 1) scLnumber.nd rfl (Or.inl rfl) (pe_call G_law_digit hr rfl R_law_digit.m R_law_digit.k R_law_digit.b .nil pass0 (pa_cons (pv 0) (pa_cons pe_int pa_nil))))
    (pss_cons (ps_if (pt_cmpR op_eq (pv 1) pe_int (nomark _)) (pss_one (ps_ret (pe_call G_law_digit hr rfl R_law_digit.m R_law_digit.k R_law_digit.b .nil pass0 (pa_cons (pv 0) (pa_cons pe_int pa_nil))))) pss_nil)
    (pss_one (ps_ret (pe_ix ix_list (pe_lst (pa_cons pe_int (pa_cons pe_int (pa_cons pe_int (pa_cons pe_int (pa_cons pe_int pa_nil)))))) (pv 1) (fun _ _ => rfl)))))), ?_⟩
  refine ⟨_, rfl, tp, 6, rfl, ht, by decide, by decide, fun r H1 r0 r1 k1 t1 => ?_⟩
  refine ⟨_, rfl, rfl, _, rfl, ?_⟩
  refine ite2 (fun c => ?_) (fun c => ?_)
  · exact ⟨_, rfl, tp, 1000, rfl, t1, by decide, by decide, fun r2 H2 _ _ k2 t2 => q r2 H2 (k1.trans k2) t2⟩
  · have c' : r ≠ 5 := fun z => c (decide_eq_true (congrArg V.int z))
    refine ⟨sz (by show 5 ≤ 100000; decide), fun p hp => ?_⟩
    have np : tp ≠ p := by
      obtain ⟨z, hz⟩ := t1
      exact ne_of_none hz hp
    obtain ⟨v, hv, hm⟩ := at_some (xs := [V.int 0, .int 1, .int 1, .int 2, .int 3]) (i := r) r0 (by show r < 5; omega)
    have hi : ∃ n, v = V.int n := by
      simp only [List.mem_cons, List.not_mem_nil, or_false] at hm
      rcases hm with z | z | z | z | z <;> exact ⟨_, z⟩
    obtain ⟨n, rfl⟩ := hi
    refine ⟨_, rfl, p, _, _, _, rfl, rfl, SqL.of upd_same, hv, ?_⟩
    refine q n _ (k1.trans (but_same (same_new hp _))) ?_
    obtain ⟨z, hz⟩ := t1
    exact ⟨z, same_new hp _ _ _ hz⟩
end
end KB

namespace KB
open PySem L2

/-! ### good terms -/
def okH : Hd → Prop
  | .nam x | .lett x | .ask x => isW x = true
  | _ => True
def okT : Tm → Prop
  | .mk h _ k => okH h ∧ ∀ i, okT (k i)
def HtLe : Nat → Tm → Prop
  | 0, _ => False
  | n + 1, .mk _ _ k => ∀ i, HtLe n (k i)
theorem HtLe.up : ∀ {n : Nat} {t : Tm}, HtLe n t → HtLe (n + 1) t
  | 0, _, h => h.elim
  | n + 1, .mk _ _ _, h => fun i => HtLe.up (n := n) (h i)
theorem HtLe.le {n m : Nat} {t : Tm} (h : HtLe n t) (e : n ≤ m) : HtLe m t := by
  induction e with
  | refl => exact h
  | step _ ih => exact ih.up
/-- each name within its word's reach, each ask with as many terms as hd says -/
def okN (hd : Str → Option Nat) : Hd → Nat → List Str → Prop
  | .nam x, _, xs => x ∈ xs
  | .ask f, n, _ => hd f = some n
  | _, _, _ => True
def inn : Hd → Nat → List Str → List Str
  | .lett x, 1, xs => xs ++ [x]
  | _, _, xs => xs
def okS (hd : Str → Option Nat) : Tm → List Str → Prop
  | .mk h n k, xs => okN hd h n xs ∧ ∀ i, okS hd (k i) (inn h i.val xs)
def mkL (h : Hd) (ts : List Tm) : Tm := .mk h ts.length fun i => ts.get i
theorem ofFn_get (ts : List Tm) : List.ofFn (fun i => ts.get i) = ts := by
  refine List.ext_getElem (by simp) fun i h1 h2 => ?_
  simp
theorem cnt_mkL {h : Hd} {ts : List Tm} : cnt (mkL h ts) = 1 + cnts ts := by
  unfold mkL
  rw [cnt_mk, ofFn_get]
theorem ok_mkL {h : Hd} {ts : List Tm} (a : okH h) (b : ∀ t ∈ ts, okT t) : okT (mkL h ts) := ⟨a, fun i => b _ (List.get_mem ts i)⟩
theorem ht_mkL {n : Nat} {h : Hd} {ts : List Tm} (b : ∀ t ∈ ts, HtLe n t) : HtLe (n + 1) (mkL h ts) := fun i => b _ (List.get_mem ts i)
theorem sc_mkL {hd : Str → Option Nat} {h : Hd} {ts : List Tm} {xs : List Str} (a : okN hd h ts.length xs) (b : ∀ i t, ts[i]? = some t → okS hd t (inn h i xs)) : okS hd (mkL h ts) xs :=
  ⟨a, fun i => b i.val _ (by rw [List.getElem?_eq_getElem i.isLt]; rfl)⟩
theorem lt_mkL {h : Hd} {ts : List Tm} : letsOf (mkL h ts) = hdLets h ++ letsL ts := by
  unfold mkL
  rw [lets_mk, ofFn_get]
theorem letsL_app (a b : List Tm) : letsL (a ++ b) = letsL a ++ letsL b := by
  unfold letsL
  rw [List.map_append, List.flatten_append]
theorem letsL_cons (t : Tm) (r : List Tm) : letsL (t :: r) = letsOf t ++ letsL r := by
  unfold letsL
  rw [List.map_cons, List.flatten_cons]
theorem stk_fn {H : Hp} : ∀ {vs : List V} {ts : List Tm}, Stk H vs ts → ∃ ys : _root_.Fin ts.length → Addr, Rfs ys = vs ∧ ∀ i, At H (ts.get i) (ys i)
  | [], [], _ => ⟨fun i => i.elim0, rfl, fun i => i.elim0⟩
  | v :: vs, t :: ts, h => by
    obtain ⟨⟨b, e, hb⟩, hr⟩ := h
    subst e
    obtain ⟨ys, e1, e2⟩ := stk_fn hr
    refine ⟨fun i => match i with | ⟨0, _⟩ => b | ⟨j + 1, hj⟩ => ys ⟨j, Nat.lt_of_succ_lt_succ hj⟩, ?_, ?_⟩
    · unfold Rfs
      show List.ofFn (n := ts.length + 1) _ = _
      rw [List.ofFn_succ, ← e1]
      rfl
    · rintro ⟨j, hj⟩
      cases j with
      | zero => exact hb
      | succ j => exact e2 ⟨j, Nat.lt_of_succ_lt_succ hj⟩
  | [], _ :: _, h => h.elim
  | _ :: _, [], h => h.elim
theorem at_mkL {H : Hp} {a : Addr} {h : Hd} {vs : List V} {ts : List Tm} (l : Lay H a h vs) (s : Stk H vs ts) : At H (mkL h ts) a := by
  obtain ⟨ys, e1, e2⟩ := stk_fn s
  refine ⟨ys, ?_, e2⟩
  rw [e1]
  exact l
/-- a new good term at a, of at most n terms, within at most d -/
structure Gd (H : Hp) (a : Addr) (n d : Nat) (hd : Str → Option Nat) (xs ls : List Str) (t : Tm) : Prop where
  at_ : At H t a
  ok : okT t
  cn : cnt t ≤ n
  dp : HtLe d t
  sc : okS hd t xs
  lt : letsOf t = ls
theorem Gd.tk {H H' : Hp} {a : Addr} {n d : Nat} {hd : Str → Option Nat} {xs ls : List Str} {t : Tm} (e : TK H H') (g : Gd H a n d hd xs ls t) : Gd H' a n d hd xs ls t := ⟨g.at_.tk e, g.ok, g.cn, g.dp, g.sc, g.lt⟩
theorem Gd.le {H : Hp} {a : Addr} {n d m e : Nat} {hd : Str → Option Nat} {xs ls : List Str} {t : Tm} (g : Gd H a n d hd xs ls t) (h1 : n ≤ m) (h2 : d ≤ e) : Gd H a m e hd xs ls t := ⟨g.at_, g.ok, Nat.le_trans g.cn h1, g.dp.le h2, g.sc, g.lt⟩
theorem gd_num {H : Hp} {a : Addr} {z : Int} {hd : Str → Option Nat} {xs : List Str} (l : Lay H a (.num z) []) : Gd H a 1 1 hd xs [] (mkL (.num z) []) :=
  ⟨at_mkL l trivial, ok_mkL trivial (fun _ z => nomatch z), (by rw [cnt_mkL]; exact Nat.le_refl 1), ht_mkL (n := 0) (fun _ z => nomatch z), sc_mkL trivial (fun _ _ z => by simp at z), lt_mkL⟩
theorem gd_nam {H : Hp} {a : Addr} {x : Str} {hd : Str → Option Nat} {xs : List Str} (l : Lay H a (.nam x) []) (o : isW x = true) (m : x ∈ xs) : Gd H a 1 1 hd xs [] (mkL (.nam x) []) :=
  ⟨at_mkL l trivial, ok_mkL o (fun _ z => nomatch z), (by rw [cnt_mkL]; exact Nat.le_refl 1), ht_mkL (n := 0) (fun _ z => nomatch z), sc_mkL m (fun _ _ z => by simp at z), lt_mkL⟩

section
variable {P : Program} {w : World} {K : PySem.W.Frag} {mg : Str → Option Value} {base : Heap}
/-! ### _law_leaf -/
def spLeaf : Sp := fun vs H Q _ => ∃ (tp : Addr) (kv : V) (ar : Addr) (xs : List Str), vs = [.ref tp, kv, .ref ar] ∧ Tp H tp ∧ Wls H ar xs ∧ xs.length ≤ 1000 ∧ ∀ a t H', But1 tp H H' → Tp H' tp → (∀ hd, Gd H' a 1 1 hd xs [] t) → Q (.ref a) H'
abbrev s_law_leaf : Stmt := top 35
theorem scLleaf : FnScope ["tape", "known", "around"] ["tape", "known", "around"] (defScope s_law_leaf) := ⟨rfl, rfl, rfl, by decide +kernel, rfl, by decide +kernel, by decide +kernel⟩
theorem Tp.same {H H' : Hp} {tp : Addr} (e : Same H H') (t : Tp H tp) : Tp H' tp := let ⟨z, h⟩ := t; ⟨z, e _ _ h⟩
theorem ok_leaf (T : Txt K mg) {f g h : Addr} {fd gd hd : FuncData} (F : Fun K "_law_leaf" "_law_leaf" s_law_leaf f fd) (G_law_digit : FnOk P w K mg base CX0 1 g gd ["tape", "many"] spDig) (R_law_digit : Ref K mg "_law_digit" g gd ["tape", "many"])
    (G_law_number : FnOk P w K mg base CX0 2 h hd ["tape"] spNum) (R_law_number : Ref K mg "_law_number" h hd ["tape"]) : FnOk P w K mg base CX0 3 f fd ["tape", "known", "around"] spLeaf := by
  refine F.ok scLleaf (fun vs H Q E h => ?_) (fun cdv A outer s H vs Q E hr h => ?_)
  · obtain ⟨tp, kv, ar, xs, rfl, _⟩ := h
    rfl
  obtain ⟨tp, kv, ar, xs, rfl, ht, hw, hl, q⟩ := h
  refine ⟨_, (pss_cons (ps_if (PW.pt (pw_and (pt_cmpR (op_neD hr.units) (pv 2) (pe_lst pa_nil) (nomark _)) (pw_and1 (pt_cmpR op_gt (pe_call G_law_digit (hr.mono (by omega)) rfl R_law_digit.m R_law_digit.k R_law_digit.b .nil pass0 (pa_cons (pv 0) (pa_cons pe_int pa_nil))) pe_int (nomark _))))) (pss_one (ps_ret (pe_tup (pa_cons pe_str (pa_cons (pe_ix ix_list (pv 2) (pe_call G_law_digit (hr.mono (by omega)) rfl R_law_digit.m R_law_digit.k R_law_digit.b .nil pass0 (pa_cons (pv 0) (pa_cons (pe_callB call_len_seq (by rfl) T.m_len PySem.boot_len (pa_cons (pv 2) pa_nil)) pa_nil))) (fun _ _ => rfl)) pa_nil))))) pss_nil)
    (pss_one (ps_ret (pe_tup (pa_cons pe_str (pa_cons (pe_call G_law_number hr rfl R_law_number.m R_law_number.k R_law_number.b .nil pass0 (pa_cons (pv 0) pa_nil)) pa_nil)))))), ?_⟩
  have numW : ∀ H1, But1 tp H H1 → Tp H1 tp → (tRet (tTup (tCons (tC (.str "number")) (tCons (tCall spNum [] E0 (tCons (tVar 0) tNil)) tNil)))) { nx := fun x H' => Q V.non H', rt := Q } [some (.ref tp), some kv, some (.ref ar)] H1 := by
    intro H1 k1 t1
    refine ⟨_, rfl, tp, rfl, t1, fun r H2 k2 t2 => ⟨sz (by show 2 ≤ 100000; decide), fun p hp => ?_⟩⟩
    have s := same_new hp (.tup [.str "number", .int r])
    exact q p (mkL (.num r) []) _ ((k1.trans k2).trans (but_same s)) (t2.same s) (fun _ => gd_num ⟨rfl, upd_same⟩)
  refine ⟨_, rfl, sz (by show 0 ≤ 100000; decide), fun p0 hp0 => ?_⟩
  have s0 := same_new hp0 (.lst [])
  refine ⟨.list (xs.map PyData.str), .list [], .lst (SqL.of (s0 _ _ hw.1)) (dp_strs xs), .lst (SqL.of upd_same) .nil, shaped_strs hw.2, rfl, _, rfl, ?_⟩
  rw [eqv_nil]
  cases xs with
  | nil => exact iteF (numW _ (but_same s0) (ht.same s0))
  | cons x0 xr =>
    refine iteT ⟨_, rfl, tp, 3, rfl, ht.same s0, by decide, by decide, fun r H1 r0 r1 k1 t1 => ?_⟩
    have k01 := (but_same s0).trans k1
    refine ⟨_, _, rfl, rfl, _, rfl, ?_⟩
    refine ite2 (fun c => ?_) (fun c => ?_)
    · have w1 := hw.but k01 ht
      refine ⟨_, rfl, _, rfl, _, rfl, ar, _, rfl, .inl (SqL.of w1.1), tp, _, rfl, t1, ?_, ?_, fun r2 H2 r3 r4 k2 t2 => ?_⟩
      · show (0 : Int) < (((x0 :: xr).map V.str).length : Nat)
        rw [List.length_map, List.length_cons]
        omega
      · rw [List.length_map]
        omega
      have w2 := w1.but k2 t1
      obtain ⟨v, hv, hm⟩ := at_some r3 r4
      obtain ⟨z, hz, rfl⟩ := List.mem_map.mp hm
      refine ⟨ar, _, _, _, rfl, rfl, SqL.of w2.1, hv, sz (by show 2 ≤ 100000; decide), fun p hp => ?_⟩
      have s := same_new hp (.tup [.str "name", .str z])
      exact q p (mkL (.nam z) []) _ ((k01.trans k2).trans (but_same s)) (t2.same s) (fun _ => gd_nam ⟨rfl, upd_same⟩ (hw.2 z hz) hz)
    · exact numW _ k01 t1
/-! ### _law_shares -/
def spShr : Sp := fun vs H Q _ => ∃ (tp : Addr) (room many : Int), vs = [.ref tp, .int room, .int many] ∧ Tp H tp ∧ 0 ≤ many ∧ many ≤ room ∧ room ≤ 1000 ∧
  ∀ (p : Addr) (xs : List Int) (H' : Hp), But1 tp H H' → Tp H' tp → H p = none → H' p = some (.lst (xs.map V.int)) → (xs.length : Int) = many → (∀ x ∈ xs, (1 : Int) ≤ x) → xs.sum ≤ room → Q (.ref p) H'
abbrev s_law_shares : Stmt := top 36
theorem scLshares : FnScope ["tape", "room", "many", "found", "left", "k", "more"] ["tape", "room", "many"] (defScope s_law_shares) := ⟨rfl, rfl, rfl, by decide +kernel, rfl, by decide +kernel, by decide +kernel⟩
theorem rep1 (n : Nat) : (List.replicate n [V.int 1]).flatten = (List.replicate n (1 : Int)).map V.int := by
  induction n with
  | zero => rfl
  | succ n ih =>
    rw [List.replicate_succ, List.flatten_cons, ih, List.replicate_succ]
    rfl
theorem sum1 (n : Nat) : (List.replicate n (1 : Int)).sum = n := by
  induction n with
  | zero => rfl
  | succ n ih =>
    rw [List.replicate_succ, List.sum_cons, ih]
    omega
theorem ok_shares (T : Txt K mg) {f g : Addr} {fd gd : FuncData} (F : Fun K "_law_shares" "_law_shares" s_law_shares f fd) (G_law_digit : FnOk P w K mg base CX0 1 g gd ["tape", "many"] spDig) (R_law_digit : Ref K mg "_law_digit" g gd ["tape", "many"]) : FnOk P w K mg base CX0 2 f fd ["tape", "room", "many"] spShr := by
  refine F.ok scLshares (fun vs H Q E h => ?_) (fun cdv A outer s H vs Q E hr h => ?_)
  · obtain ⟨tp, room, many, rfl, _⟩ := h
    rfl
  obtain ⟨tp, room, many, rfl, ht, h0, h1, h2, q⟩ := h
  refine ⟨_, (pss_cons (ps_set (i := 3) scLshares.nd rfl (Or.inl rfl) (pe_op op_rep (pe_lst (pa_cons pe_int pa_nil)) (pv 2)))
    (pss_cons (ps_set (i := 4) scLshares.nd rfl (Or.inl rfl) (pe_op op_sub (pv 1) (pv 2)))
    (pss_cons (ps_for PassesOwn.never rfl (pi_range1 rfl T.m_range (pa_cons (pv 2) pa_nil)) (pg_name (i := 5) scLshares.nd rfl (Or.inl rfl)) (pss_cons (ps_set (i := 6) scLshares.nd rfl (Or.inl rfl) (pe_call G_law_digit hr rfl R_law_digit.m R_law_digit.k R_law_digit.b .nil pass0 (pa_cons (pv 0) (pa_cons (pe_op op_add (pv 4) pe_int) pa_nil))))
    (pss_cons (ps_asg (pe_op op_add (pe_ix ix_list (pv 3) (pv 5) (fun _ _ => rfl)) (pv 6)) (pg_sub (pv 3) (pv 5) set_list))
    (pss_one (ps_set (i := 4) scLshares.nd rfl (Or.inl rfl) (pe_op op_sub (pv 4) (pv 6)))))))
    (pss_one (ps_ret (pv 3)))))), ?_⟩
  refine ⟨sz (by show 1 ≤ 100000; decide), fun p1 hp1 => ?_⟩
  have s1 := same_new hp1 (.lst [.int 1])
  refine ⟨_, rfl, p1, _, _, rfl, rfl, upd_same, by omega, by omega, sz (by show 1 * many.toNat ≤ 100000; omega), fun fl hfl => ?_⟩
  have s2 := same_new hfl (.lst (List.replicate many.toNat [V.int 1]).flatten)
  have s12 := s1.trans s2
  have hfl0 : H fl = none := s1.free hfl
  have f1 : upd (upd H p1 (.lst [.int 1])) fl (.lst (List.replicate many.toNat [V.int 1]).flatten) fl = some (.lst ((List.replicate many.toNat (1 : Int)).map V.int)) := by
    rw [upd_same, rep1]
  refine ⟨_, rfl, _, rfl, _, _, rfl, rfl, ?_⟩
  refine ⟨_, rfl, many, rfl, by omega, by omega, ?_⟩
  have ntp : fl ≠ tp := by
    obtain ⟨z, hz⟩ := ht
    exact (ne_of_none hz hfl0).symm
  refine for_range (lo := 0) (n := many.toNat) (fun i σ H' => ∃ left o5 o6 xs, σ = [some (.ref tp), some (.int room), some (.int many), some (.ref fl), some (.int left), o5, o6] ∧ But1 tp H H' ∧ Tp H' tp ∧ H' fl = some (.lst ((xs : List Int).map V.int)) ∧
    (xs.length : Int) = many ∧ (∀ x ∈ xs, (1 : Int) ≤ x) ∧ xs.sum + left = room ∧ 0 ≤ left) ?_ ?_ ?_
  · refine ⟨_, _, _, List.replicate many.toNat 1, rfl, but_same s12, ht.same s12, f1, ?_, ?_, ?_, by omega⟩
    · rw [List.length_replicate]
      omega
    · intro x hx
      rw [(List.mem_replicate.mp hx).2]
      decide
    · rw [sum1]
      omega
  · rintro i σ H1 hi ⟨left, o5, o6, xs, rfl, k1, t1, g1, g2, g3, g4, g5⟩
    refine ⟨_, rfl, _, rfl, _, _, rfl, rfl, tp, _, rfl, t1, by omega, ?_, fun r H2 r0 r1 k2 t2 => ?_⟩
    · have : xs.sum ≥ 0 := by
        clear g1 g2 g4
        induction xs with
        | nil => decide
        | cons x r ih =>
          have e1 := g3 x List.mem_cons_self
          have e2 := ih fun y hy => g3 y (List.mem_cons_of_mem _ hy)
          rw [List.sum_cons]
          omega
      omega
    have g6 := k2 _ _ ntp g1
    have hi2 : i < xs.length := by omega
    have hx : xs[i]? = some xs[i] := List.getElem?_eq_getElem hi2
    have e0 : (0 : Int) + (i : Nat) = ((i : Nat) : Int) := by omega
    refine ⟨_, rfl, _, rfl, fl, _, _, .int xs[i], rfl, rfl, SqL.of g6, ?_, _, rfl, _, _, rfl, rfl, ?_⟩
    · rw [e0]
      exact atI_nat (by rw [List.getElem?_map, hx]; rfl)
    refine ⟨_, rfl, _, rfl, fl, _, _, i, rfl, rfl, g6, ?_, ?_⟩
    · rw [e0, List.length_map]
      unfold ixN
      rw [if_pos (by omega), if_pos (by omega)]
      rfl
    refine ⟨_, rfl, _, rfl, _, _, rfl, rfl, ?_⟩
    refine ⟨_, _, _, xs.set i (xs[i] + r), rfl, fun b o n h => ?_, ?_, ?_, ?_, ?_, ?_, by omega⟩
    · by_cases e : b = fl
      · subst e
        rw [hfl0] at h
        cases h
      · rw [upd_ne e]
        exact k2 _ _ n (k1 _ _ n h)
    · obtain ⟨z, hz⟩ := t2
      exact ⟨z, by rw [upd_ne (Ne.symm ntp)]; exact hz⟩
    · rw [upd_same, List.map_set]
    · rw [List.length_set]
      exact g2
    · intro x hx'
      rcases List.mem_or_eq_of_mem_set hx' with z | z
      · exact g3 x z
      · have := g3 _ (List.getElem_mem hi2)
        omega
    · rw [sum_set hx]
      omega
  · rintro σ H1 ⟨left, o5, o6, xs, rfl, k1, t1, g1, g2, g3, g4, g5⟩
    exact ⟨_, rfl, q fl xs H1 k1 t1 hfl0 g1 g2 g3 (by omega)⟩
/-! ### _law_less_one -/
def spLess : Sp := fun vs H Q _ => ∃ (ar : Addr) (xs : List Str), vs = [.ref ar] ∧ Wls H ar xs ∧ ∀ a t H', Same H H' → (∀ hd, Gd H' a 3 2 hd xs [] t) → Q (.ref a) H'
abbrev s_law_less_one : Stmt := top 37
theorem scLless_one : FnScope ["around"] ["around"] (defScope s_law_less_one) := ⟨rfl, rfl, rfl, by decide +kernel, rfl, by decide +kernel, by decide +kernel⟩
theorem ok_less {f : Addr} {fd : FuncData} (F : Fun K "_law_less_one" "_law_less_one" s_law_less_one f fd) : FnOk P w K mg base CX0 1 f fd ["around"] spLess := by
  refine F.ok scLless_one (fun vs H Q E h => ?_) (fun cdv A outer s H vs Q E hr h => ?_)
  · obtain ⟨ar, xs, rfl, _⟩ := h
    rfl
  obtain ⟨ar, xs, rfl, hw, q⟩ := h
  refine ⟨_, (pss_cons (ps_if (pt_cmpR (op_eqD hr.units) (pv 0) (pe_lst pa_nil) (nomark _)) (pss_one (ps_ret (pe_tup (pa_cons pe_str (pa_cons pe_int pa_nil))))) pss_nil)
    (pss_one (ps_ret (pe_tup (pa_cons pe_str (pa_cons (pe_tup (pa_cons pe_str (pa_cons (pe_ix ix_list (pv 0) pe_int (fun _ _ => rfl)) pa_nil))) (pa_cons (pe_tup (pa_cons pe_str (pa_cons pe_int pa_nil))) pa_nil))))))), ?_⟩
  refine ⟨_, rfl, sz (by show 0 ≤ 100000; decide), fun p0 hp0 => ?_⟩
  have s0 := same_new hp0 (.lst [])
  refine ⟨.list (xs.map PyData.str), .list [], .lst (SqL.of (s0 _ _ hw.1)) (dp_strs xs), .lst (SqL.of upd_same) .nil, shaped_strs hw.2, rfl, _, rfl, ?_⟩
  rw [eqv_nil]
  cases xs with
  | nil =>
    refine iteT ⟨sz (by show 2 ≤ 100000; decide), fun p hp => ?_⟩
    exact q p (mkL (.num 0) []) _ (s0.trans (same_new hp _)) (fun _ => (gd_num ⟨rfl, upd_same⟩).le (by decide) (by decide))
  | cons x0 xr =>
    refine iteF ⟨_, rfl, ar, _, _, _, rfl, rfl, SqL.of (s0 _ _ hw.1), at0, sz (by show 2 ≤ 100000; decide), fun p1 hp1 => ?_⟩
    have s1 := same_new hp1 (.tup [.str "name", .str x0])
    refine ⟨sz (by show 2 ≤ 100000; decide), fun p2 hp2 => ?_⟩
    have s2 := same_new hp2 (.tup [.str "number", .int 1])
    refine ⟨sz (by show 3 ≤ 100000; decide), fun p3 hp3 => ?_⟩
    have s3 := same_new hp3 (.tup [.str "less", .ref p1, .ref p2])
    have s23 := s2.trans s3
    have l1 : Lay _ p1 (.nam x0) [] := ⟨rfl, s23 _ _ upd_same⟩
    have l2 : Lay _ p2 (.num 1) [] := ⟨rfl, s3 _ _ upd_same⟩
    refine q p3 (mkL .less [mkL (.nam x0) [], mkL (.num 1) []]) _ (s0.trans (s1.trans s23)) fun hd => ?_
    have g1 := gd_nam (hd := hd) (xs := x0 :: xr) l1 (hw.2 x0 List.mem_cons_self) List.mem_cons_self
    have g2 := gd_num (hd := hd) (xs := x0 :: xr) l2
    refine ⟨?_, ?_, ?_, ?_, ?_, ?_⟩
    · exact at_mkL (vs := [.ref p1, .ref p2]) ⟨rfl, upd_same⟩ ⟨⟨p1, rfl, g1.at_⟩, ⟨p2, rfl, g2.at_⟩, trivial⟩
    · refine ok_mkL trivial fun t ht => ?_
      simp only [List.mem_cons, List.not_mem_nil, or_false] at ht
      rcases ht with z | z
      · subst z
        exact g1.ok
      · subst z
        exact g2.ok
    · have c1 := g1.cn
      have c2 := g2.cn
      rw [cnt_mkL, cnts_cons, cnts_cons]
      show 1 + (_ + (_ + 0)) ≤ 3
      omega
    · refine ht_mkL fun t ht => ?_
      simp only [List.mem_cons, List.not_mem_nil, or_false] at ht
      rcases ht with z | z
      · subst z
        exact g1.dp
      · subst z
        exact g2.dp
    · refine sc_mkL trivial fun i t hi => ?_
      match i, hi with
      | 0, hi =>
        cases (Option.some.inj hi)
        exact g1.sc
      | 1, hi =>
        cases (Option.some.inj hi)
        exact g2.sc
      | i + 2, hi => simp at hi
    · rw [lt_mkL, letsL_cons, letsL_cons, g1.lt, g2.lt]
      rfl
end
end KB

namespace KB
open PySem L2

/-! ### what a generator of terms has at hand -/
def But2 (tp wl : Addr) (H H' : Hp) : Prop := ∀ b o, b ≠ tp → b ≠ wl → H b = some o → H' b = some o
theorem But2.refl (tp wl : Addr) (H : Hp) : But2 tp wl H H := fun _ _ _ _ h => h
theorem But2.trans {tp wl : Addr} {H H1 H2 : Hp} (a : But2 tp wl H H1) (b : But2 tp wl H1 H2) : But2 tp wl H H2 := fun x o n m h => b x o n m (a x o n m h)
theorem But1.two {tp wl : Addr} {H H' : Hp} (a : But1 tp H H') : But2 tp wl H H' := fun x o n _ h => a x o n h
theorem but2_same {tp wl : Addr} {H H' : Hp} (e : Same H H') : But2 tp wl H H' := fun b o _ _ h => e b o h
def kwE : Key := Sum.inr "errands"
def kwH : Key := Sum.inr "heads"
def kwW : Key := Sum.inr "words"
def knD (el hd wl : Addr) : List (Key × V) := [(Sum.inr "errands", .ref el), (Sum.inr "heads", .ref hd), (Sum.inr "words", .ref wl)]
structure GS (H : Hp) (tp kd wl : Addr) (hF : Str → Option Nat) (ws : List Str) : Prop where
  t : Tp H tp
  w : Wls H wl ws
  wn : ws.length ≤ 100
  k : ∃ el hd fs kvs, H kd = some (.dK (knD el hd wl)) ∧ el ≠ wl ∧ Wls H el fs ∧ 0 < fs.length ∧ fs.length ≤ 100 ∧ H hd = some (.dK kvs) ∧ ∀ f ∈ fs, ∃ n : Int, valV kvs (Sum.inr f) = some (.int n) ∧ 0 ≤ n ∧ n ≤ 4 ∧ hF f = some n.toNat
theorem GS.ntk {H : Hp} {tp kd wl : Addr} {hF : Str → Option Nat} {ws : List Str} (g : GS H tp kd wl hF ws) {a : Addr} {o : HO} (h : H a = some o) (hn : ∀ xs, o ≠ .lst xs) : a ≠ tp ∧ a ≠ wl := by
  obtain ⟨z, hz⟩ := g.t
  exact ⟨ne_of h hz (hn _), ne_of h g.w.1 (hn _)⟩
theorem GS.tk {H H' : Hp} {tp kd wl : Addr} {hF : Str → Option Nat} {ws : List Str} (g : GS H tp kd wl hF ws) (b : But2 tp wl H H') : TK H H' := fun a _ h => by
  obtain ⟨n1, n2⟩ := g.ntk h (fun _ z => nomatch z)
  exact b a _ n1 n2 h
theorem GS.step {H H' : Hp} {tp kd wl : Addr} {hF : Str → Option Nat} {ws ws' : List Str} (g : GS H tp kd wl hF ws) (b : But2 tp wl H H') (t : Tp H' tp) (w : Wls H' wl ws') (wn : ws'.length ≤ 100) : GS H' tp kd wl hF ws' := by
  obtain ⟨el, hd, fs, kvs, k1, k2, k3, k4, k5, k6, k7⟩ := g.k
  refine ⟨t, w, wn, el, hd, fs, kvs, ?_, k2, ⟨b _ _ (wls_tp k3.1 g.t) k2 k3.1, k3.2⟩, k4, k5, ?_, k7⟩
  · obtain ⟨n1, n2⟩ := g.ntk k1 (fun _ z => nomatch z)
    exact b _ _ n1 n2 k1
  · obtain ⟨n1, n2⟩ := g.ntk k6 (fun _ z => nomatch z)
    exact b _ _ n1 n2 k6
theorem GS.one {H H' : Hp} {tp kd wl : Addr} {hF : Str → Option Nat} {ws : List Str} (g : GS H tp kd wl hF ws) (b : But1 tp H H') (t : Tp H' tp) : GS H' tp kd wl hF ws :=
  g.step b.two t (g.w.but b g.t) g.wn
theorem GS.same {H H' : Hp} {tp kd wl : Addr} {hF : Str → Option Nat} {ws : List Str} (g : GS H tp kd wl hF ws) (e : Same H H') : GS H' tp kd wl hF ws := g.one (but_same e) (g.t.same e)
theorem Wls.two {tp kd wl a : Addr} {H H' : Hp} {xs : List Str} {hF : Str → Option Nat} {ws : List Str} (e : But2 tp wl H H') (g : GS H tp kd wl hF ws) (n : a ≠ wl) (h : Wls H a xs) : Wls H' a xs := ⟨e _ _ (wls_tp h.1 g.t) n h.1, h.2⟩
/-- an object that was new stays -/
theorem GS.new {tp kd wl : Addr} {H : Hp} {hF : Str → Option Nat} {ws : List Str} (g : GS H tp kd wl hF ws) {p : Addr} (h : H p = none) : p ≠ tp ∧ p ≠ wl := by
  obtain ⟨z, hz⟩ := g.t
  exact ⟨(ne_of_none hz h).symm, (ne_of_none g.w.1 h).symm⟩
theorem But2.put {tp wl : Addr} {H H' : Hp} {p : Addr} {o : HO} (e : But2 tp wl H H') (h : H p = none) : But2 tp wl H (upd H' p o) := fun a u n m ha => by
  rw [upd_ne (ne_of_none ha h)]
  exact e _ _ n m ha
theorem GS.put {tp kd wl : Addr} {H : Hp} {hF : Str → Option Nat} {ws : List Str} (g : GS H tp kd wl hF ws) {p : Addr} {o o' : HO} (h : H p = some o) (n1 : p ≠ tp) (n2 : p ≠ wl) (n3 : p ≠ kd) (n4 : ∀ kvs, o ≠ .dK kvs) (n5 : ∀ x : Str, ∀ xs, o ≠ .lst (.str x :: xs)) : GS (upd H p o') tp kd wl hF ws := by
  obtain ⟨el, hd, fs, kvs, k1, k2, k3, k4, k5, k6, k7⟩ := g.k
  obtain ⟨z, hz⟩ := g.t
  refine ⟨⟨z, by rw [upd_ne n1.symm]; exact hz⟩, ⟨by rw [upd_ne n2.symm]; exact g.w.1, g.w.2⟩, g.wn, el, hd, fs, kvs, by rw [upd_ne n3.symm]; exact k1, k2, ⟨?_, k3.2⟩, k4, k5, ?_, k7⟩
  · have ne : el ≠ p := by
      rintro rfl
      rw [k3.1] at h
      cases fs with
      | nil => exact absurd k4 (Nat.lt_irrefl 0)
      | cons x r => exact n5 x _ (Option.some.inj h).symm
    rw [upd_ne ne]
    exact k3.1
  · have ne : hd ≠ p := by
      rintro rfl
      rw [k6] at h
      exact n4 _ (Option.some.inj h).symm
    rw [upd_ne ne]
    exact k6
theorem get_errands {H : Hp} {kd el hd wl : Addr} (h : H kd = some (.dK (knD el hd wl))) : DGet H kd (.str "errands") (some (.ref el)) := DGet.k (k := kwE) h
theorem get_heads {H : Hp} {kd el hd wl : Addr} (h : H kd = some (.dK (knD el hd wl))) : DGet H kd (.str "heads") (some (.ref hd)) := DGet.k (k := kwH) h
theorem get_words {H : Hp} {kd el hd wl : Addr} (h : H kd = some (.dK (knD el hd wl))) : DGet H kd (.str "words") (some (.ref wl)) := DGet.k (k := kwW) h
theorem get_of {H : Hp} {hd : Addr} {kvs : List (Key × V)} {f : Str} {v : V} (h : H hd = some (.dK kvs)) (e : valV kvs (Sum.inr f) = some v) : DGet H hd (.str f) (some v) := by
  have := DGet.k (k := Sum.inr f) h
  rw [e] at this
  exact this
theorem small64 {x : Int} (h0 : 0 ≤ x) (h1 : x < 1000000) : -(2 ^ 64) < x ∧ x < 2 ^ 64 := by
  have e : (2 : Int) ^ 64 = 18446744073709551616 := by decide
  rw [e]
  omega

theorem conv_v {Q : V → Hp → Prop} {x y : V} {H : Hp} (e : x = y) (h : Q y H) : Q x H := e ▸ h
theorem ite_share {c : Prop} [Decidable c] {A B P : Prop} (hB : P → B) (hP : ¬ c → P) (hA : c → (P → B) → A) : if c then A else B := by
  by_cases h : c
  · rw [if_pos h]
    exact hA h hB
  · rw [if_neg h]
    exact hB (hP h)

section
variable {P : Program} {w : World} {K : PySem.W.Frag} {mg : Str → Option Value} {base : Heap}
def spTerm (n : Nat) : Sp := fun vs H Q _ => ∃ (tp kd wl ar : Addr) (hF : Str → Option Nat) (ws xs : List Str) (room deep : Int), vs = [.ref tp, .ref kd, .ref ar, .int room, .int deep] ∧ GS H tp kd wl hF ws ∧ Wls H ar xs ∧ ar ≠ wl ∧ (xs.length : Int) + deep ≤ 500 ∧
  1 ≤ room ∧ room ≤ 900 ∧ 0 ≤ deep ∧ deep.toNat < n ∧ ∀ a t ls H' ws', But2 tp wl H H' → ws = ws' ++ List.reverse ls → GS H' tp kd wl hF ws' → Gd H' a room.toNat (deep.toNat + 2) hF xs ls t → Q (.ref a) H'
def spAsk (n : Nat) : Sp := fun vs H Q _ => ∃ (tp kd wl ar : Addr) (hF : Str → Option Nat) (ws xs : List Str) (room deep : Int), vs = [.ref tp, .ref kd, .ref ar, .int room, .int deep] ∧ GS H tp kd wl hF ws ∧ Wls H ar xs ∧ ar ≠ wl ∧ (xs.length : Int) + deep ≤ 500 ∧
  2 ≤ room ∧ room ≤ 900 ∧ 1 ≤ deep ∧ deep.toNat ≤ n ∧ ∀ a t ls H' ws', But2 tp wl H H' → ws = ws' ++ List.reverse ls → GS H' tp kd wl hF ws' → Gd H' a room.toNat (deep.toNat + 2) hF xs ls t → Q (.ref a) H'
abbrev s_law_ask : Stmt := top 38
theorem scLask : FnScope ["tape", "known", "around", "room", "deep", "f", "many", "some", "first", "shares", "k"] ["tape", "known", "around", "room", "deep"] (defScope s_law_ask) := ⟨rfl, rfl, rfl, by decide +kernel, rfl, by decide +kernel, by decide +kernel⟩
theorem le_sum {l : List Int} {x : Int} (h : ∀ y ∈ l, (1 : Int) ≤ y) (hx : x ∈ l) : x ≤ l.sum := by
  induction l with
  | nil => cases hx
  | cons a r ih =>
    have e : (0 : Int) ≤ r.sum := by
      clear ih hx
      induction r with
      | nil => decide
      | cons b s ih2 =>
        have e1 := h b (List.mem_cons_of_mem _ List.mem_cons_self)
        have e2 := ih2 fun y hy => by
          rcases List.mem_cons.mp hy with z | z
          · exact h y (List.mem_cons.mpr (.inl z))
          · exact h y (List.mem_cons_of_mem _ (List.mem_cons_of_mem _ z))
        rw [List.sum_cons]
        omega
    have ha := h a List.mem_cons_self
    rw [List.sum_cons]
    rcases List.mem_cons.mp hx with z | z
    · omega
    · have := ih (fun y hy => h y (List.mem_cons_of_mem _ hy)) z
      omega
/-- within the loop over an ask's terms, i of them made -/
def AskI (H : Hp) (tp kd wl ar sl sh : Addr) (hF : Str → Option Nat) (ws xs : List Str) (ss : List Int) (fn : Str) (room deep many fi : Int) (i : Nat) (σ : St) (H' : Hp) : Prop :=
  ∃ o10 vs ts wsi, σ = [some (.ref tp), some (.ref kd), some (.ref ar), some (.int room), some (.int deep), some (.str fn), some (.int many), some (.ref sl), some (.int fi), some (.ref sh), o10] ∧
  But2 tp wl H H' ∧ GS H' tp kd wl hF wsi ∧ ws = wsi ++ (letsL ts).reverse ∧ Wls H' ar xs ∧ H' sh = some (.lst (ss.map V.int)) ∧ H' sl = some (.lst vs) ∧ Stk H' vs ts ∧ ts.length = i ∧ (∀ t ∈ ts, okT t ∧ HtLe (deep.toNat + 1) t ∧ okS hF t xs) ∧ (cnts ts : Int) ≤ (ss.take i).sum + (if fi > 0 then 2 else 0)
theorem ok_ask (T : Txt K mg) {n : Nat} {f fg fh fs_ fl_ ft : Addr} {fd gd hd sd ld td : FuncData} (F : Fun K "_law_ask" "_law_ask" s_law_ask f fd) (G_law_digit : FnOk P w K mg base CX0 1 fg gd ["tape", "many"] spDig) (R_law_digit : Ref K mg "_law_digit" fg gd ["tape", "many"])
    (G_law_leaf : FnOk P w K mg base CX0 3 fh hd ["tape", "known", "around"] spLeaf) (R_law_leaf : Ref K mg "_law_leaf" fh hd ["tape", "known", "around"]) (G_law_shares : FnOk P w K mg base CX0 2 fs_ sd ["tape", "room", "many"] spShr) (R_law_shares : Ref K mg "_law_shares" fs_ sd ["tape", "room", "many"])
    (G_law_less_one : FnOk P w K mg base CX0 1 fl_ ld ["around"] spLess) (R_law_less_one : Ref K mg "_law_less_one" fl_ ld ["around"])
    (G_law_term : FnOk P w K mg base CX0 (2 * n + 4) ft td ["tape", "known", "around", "room", "deep"] (spTerm n)) (R_law_term : Ref K mg "_law_term" ft td ["tape", "known", "around", "room", "deep"]) : FnOk P w K mg base CX0 (2 * n + 5) f fd ["tape", "known", "around", "room", "deep"] (spAsk n) := by
  refine F.ok scLask (fun vs H Q E h => ?_) (fun cdv A outer s H vs Q E hr h => ?_)
  · obtain ⟨tp, kd, wl, ar, hF, ws, xs, room, deep, rfl, _⟩ := h
    rfl
  obtain ⟨tp, kd, wl, ar, hF, ws, xs, room, deep, rfl, hg, hw, naw, hx, hr1, hr2, hd1, hd2, q⟩ := h
  refine ⟨_, (pss_cons (ps_set (i := 5) scLask.nd rfl (Or.inl rfl) (pe_ix ix_list (pe_dget (hu_of hr) (pv 1) pe_str (fun _ _ => rfl)) (pe_call G_law_digit (hr.mono (by omega)) rfl R_law_digit.m R_law_digit.k R_law_digit.b .nil pass0 (pa_cons (pv 0) (pa_cons (pe_callB call_len_seq (by rfl) T.m_len PySem.boot_len (pa_cons (pe_dget (hu_of hr) (pv 1) pe_str (fun _ _ => rfl)) pa_nil)) pa_nil))) (fun _ _ => rfl)))
    (pss_cons (ps_set (i := 6) scLask.nd rfl (Or.inl rfl) (pe_dget (hu_of hr) (pe_dget (hu_of hr) (pv 1) pe_str (fun _ _ => rfl)) (pv 5) (fun _ _ => rfl)))
    (pss_cons (ps_if (PW.pt (pw_and (pt_cmpR op_gt (pe_op op_add (pv 6) pe_int) (pv 3) (nomark _)) (pw_and1 (pt_cmpR op_gt (pv 6) pe_int (nomark _))))) (pss_one (ps_ret (pe_call G_law_leaf (hr.mono (by omega)) rfl R_law_leaf.m R_law_leaf.k R_law_leaf.b .nil pass0 (pa_cons (pv 0) (pa_cons (pv 1) (pa_cons (pv 2) pa_nil)))))) pss_nil)
    (pss_cons (ps_set (i := 7) scLask.nd rfl (Or.inl rfl) (pe_lst pa_nil))
    (pss_cons (ps_set (i := 8) scLask.nd rfl (Or.inl rfl) (pe_op op_mul (pe_call G_law_digit (hr.mono (by omega)) rfl R_law_digit.m R_law_digit.k R_law_digit.b .nil pass0 (pa_cons (pv 0) (pa_cons pe_int pa_nil))) (pe_callTy call_int1 (by rfl) T.m_int (by decide +kernel) (pa_cons (pe_cmpR op_gt (pv 6) pe_int (nomark _)) pa_nil))))
    (pss_cons (ps_set (i := 9) scLask.nd rfl (Or.inl rfl) (pe_call G_law_shares (hr.mono (by omega)) rfl R_law_shares.m R_law_shares.k R_law_shares.b .nil pass0 (pa_cons (pv 0) (pa_cons (pe_callB (call_max2 rfl) (by rfl) T.m_max (by decide +kernel) (pa_cons (pv 6) (pa_cons (pe_op op_sub (pv 3) (pe_ix ix_list (pe_lst (pa_cons pe_int (pa_cons pe_int pa_nil))) (pe_callTy call_int1 (by rfl) T.m_int (by decide +kernel) (pa_cons (pe_cmpR op_gt (pv 8) pe_int (nomark _)) pa_nil)) (fun _ _ => rfl))) pa_nil))) (pa_cons (pv 6) pa_nil)))))
    (pss_cons (ps_for PassesOwn.never rfl (pi_range1 rfl T.m_range (pa_cons (pv 6) pa_nil)) (pg_name (i := 10) scLask.nd rfl (Or.inl rfl)) (pss_one (ps_if (PW.pt (pw_and (pt_cmpR op_eq (pv 10) pe_int (nomark _)) (pw_and1 (pt_cmpR op_gt (pv 8) pe_int (nomark _))))) (pss_one (ps_expr (pe_bm PySem.F.plainAttrs_list PySem.F.slot_list_append PySem.F.type_list_append mt_append (pv 7) (pa_cons (pe_call G_law_less_one (hr.mono (by omega)) rfl R_law_less_one.m R_law_less_one.k R_law_less_one.b .nil pass0 (pa_cons (pv 2) pa_nil)) pa_nil)))) (pss_one (ps_expr (pe_bm PySem.F.plainAttrs_list PySem.F.slot_list_append PySem.F.type_list_append mt_append (pv 7) (pa_cons (pe_call G_law_term hr rfl R_law_term.m R_law_term.k R_law_term.b .nil pass0 (pa_cons (pv 0) (pa_cons (pv 1) (pa_cons (pv 2) (pa_cons (pe_ix ix_list (pv 9) (pv 10) (fun _ _ => rfl)) (pa_cons (pe_op op_sub (pv 4) pe_int) pa_nil)))))) pa_nil)))))))
    (pss_one (ps_ret (pe_tup (pa_cons pe_str (pa_cons (pv 5) (pa_cons (pe_callTy call_tuple_of (by rfl) T.m_tuple (by decide +kernel) (pa_cons (pv 7) pa_nil)) pa_nil))))))))))))), ?_⟩
  obtain ⟨el, hd', fs, kvs, k1, k2, k3, k4, k5, k6, k7⟩ := hg.k
  refine ⟨_, rfl, kd, _, rfl, get_errands k1, _, rfl, _, rfl, kd, _, rfl, get_errands k1, el, _, rfl, .inl (SqL.of k3.1), tp, _, rfl, hg.t, ?_, ?_, fun r H1 r0 r1 b1 t1 => ?_⟩
  · rw [List.length_map]
    omega
  · rw [List.length_map]
    omega
  have g1 := hg.one b1 t1
  have k3' := k3.but b1 hg.t
  have k1' : H1 kd = some (.dK (knD el hd' wl)) := by
    obtain ⟨n1, _⟩ := hg.ntk k1 (fun _ z => nomatch z)
    exact b1 _ _ n1 k1
  have k6' : H1 hd' = some (.dK kvs) := by
    obtain ⟨n1, _⟩ := hg.ntk k6 (fun _ z => nomatch z)
    exact b1 _ _ n1 k6
  obtain ⟨v, hv, hm⟩ := at_some r0 r1
  obtain ⟨fn, hfn, rfl⟩ := List.mem_map.mp hm
  obtain ⟨many, hmany, m0, m4, mF⟩ := k7 fn hfn
  refine ⟨el, _, _, _, rfl, rfl, SqL.of k3'.1, hv, ?_⟩
  refine ⟨_, rfl, kd, _, rfl, get_heads k1', _, rfl, hd', _, rfl, get_of k6' hmany, ?_⟩
  have hw1 := hw.but b1 hg.t
  have leafW : ∀ H2, But2 tp wl H H2 → GS H2 tp kd wl hF ws → Wls H2 ar xs → ∀ s7 s8 s9 s10 : Option V, (tRet (tCall spLeaf [] E0 (tCons (tVar 0) (tCons (tVar 1) (tCons (tVar 2) tNil))))) { nx := fun x H' => Q V.non H', rt := Q }
      [some (.ref tp), some (.ref kd), some (.ref ar), some (.int room), some (.int deep), some (.str fn), some (.int many), s7, s8, s9, s10] H2 := by
    intro H2 b2 g2 w2 s7 s8 s9 s10
    refine ⟨_, rfl, _, rfl, _, rfl, tp, .ref kd, ar, xs, rfl, g2.t, w2, by omega, fun a t H3 b3 t3 gd => ?_⟩
    exact q a t [] H3 ws (b2.trans b3.two) (List.append_nil ws).symm (g2.one b3 t3) ((gd hF).le (by omega) (by omega))
  refine ⟨_, rfl, _, _, rfl, rfl, _, rfl, _, _, rfl, rfl, _, rfl, ?_⟩
  refine ite_share (P := many > 0 → many + 3 ≤ room) (fun hp => ?_) (fun c z => ?_) (fun c kB => ?_)
  rotate_left
  · have c' : ¬ room < many + 3 := fun y => c (decide_eq_true y)
    omega
  · refine ⟨_, rfl, _, _, rfl, rfl, _, rfl, ?_⟩
    refine ite2 (fun c2 => ?_) (fun c2 => ?_)
    · exact leafW H1 b1.two g1 hw1 _ _ _ _
    · exact kB fun z => absurd (decide_eq_true z) c2
  -- some = []
  refine ⟨sz (by show 0 ≤ 100000; decide), fun sl hsl => ?_⟩
  have s1 := same_new hsl (.lst [])
  have hsl0 : H sl = none := by
    cases e : H sl with
    | none => rfl
    | some o =>
      obtain ⟨n1, n2⟩ := g1.new hsl
      rw [b1 _ _ n1 e] at hsl
      cases hsl
  -- first
  refine ⟨_, rfl, tp, 4, rfl, g1.t.same s1, by decide, by decide, fun r2 H2 r3 r4 b2 t2 => ?_⟩
  have g1s := g1.same s1
  have g2 := g1s.one b2 t2
  obtain ⟨nst, nsw⟩ := g1.new hsl
  have h2 : H2 sl = some (.lst []) := b2 _ _ nst upd_same
  have B2 : But2 tp wl H H2 := b1.two.trans ((but2_same s1).trans b2.two)
  have w2 := (hw1.but (but_same s1) g1.t).but b2 g1s.t
  refine ⟨_, rfl, _, _, rfl, rfl, .inr ⟨_, rfl, _, _, rfl, rfl, .inl (small64 r3 (by omega)), ?_⟩⟩
  have hfirst : ∃ fi : Int, r2 * (if decide (many > 0) = true then 1 else 0) = fi ∧ 0 ≤ fi ∧ fi < 4 ∧ (fi > 0 → many > 0) := by
    by_cases c : many > 0
    · refine ⟨r2, ?_, r3, r4, fun _ => c⟩
      rw [if_pos (decide_eq_true c)]
      omega
    · refine ⟨0, ?_, by decide, by decide, fun z => by omega⟩
      rw [if_neg (by rw [decide_eq_false c]; exact Bool.false_ne_true)]
      omega
  obtain ⟨fi, efi, fi0, fi4, fim⟩ := hfirst
  simp only [efi]
  -- shares
  refine ⟨_, rfl, _, rfl, _, rfl, sz (by show 2 ≤ 100000; decide), fun p2 hp2 => ?_⟩
  have s3 := same_new hp2 (.lst [.int 1, .int 3])
  have hix : ∃ d : Int, atI [V.int 1, .int 3] (if decide (fi > 0) = true then 1 else 0) = some (.int d) ∧ ((fi > 0 ∧ d = 3) ∨ (¬ fi > 0 ∧ d = 1)) := by
    by_cases c : fi > 0
    · exact ⟨3, by rw [if_pos (decide_eq_true c)]; exact at1, .inl ⟨c, rfl⟩⟩
    · exact ⟨1, by rw [if_neg (by rw [decide_eq_false c]; exact Bool.false_ne_true)]; exact at0, .inr ⟨c, rfl⟩⟩
  obtain ⟨d, hd0, hd9⟩ := hix
  refine ⟨_, rfl, _, _, rfl, rfl, .inr ⟨_, rfl, p2, _, _, _, rfl, rfl, SqL.of upd_same, hd0, _, _, rfl, rfl, ?_⟩⟩
  have hmx : ∃ mx : Int, (if room - d > many then room - d else many) = mx ∧ many ≤ mx ∧ mx ≤ 900 ∧ (fi > 0 → mx = room - 3) ∧ (¬ fi > 0 → mx ≤ room - 1 ∨ (many = 0 ∧ mx ≤ room)) := by
    refine ⟨_, rfl, ?_⟩
    split <;> omega
  obtain ⟨mx, emx, mx0, mx1, mx2, mx3⟩ := hmx
  refine ⟨_, _, rfl, ?_⟩
  simp only [emx]
  refine ⟨_, rfl, tp, mx, many, rfl, g2.t.same s3, m0, mx0, by omega, fun sh ss H4 b4 t4 hsh h4 hsl4 hs1 hsum => ?_⟩
  have g3 := g2.same s3
  have g4 := g3.one b4 t4
  have B4 : But2 tp wl H H4 := B2.trans ((but2_same s3).trans b4.two)
  have w4 := (w2.but (but_same s3) g2.t).but b4 g3.t
  have h4s : H4 sl = some (.lst []) := b4 _ _ nst (s3 _ _ h2)
  have nsh : sh ≠ sl := (ne_of_none (s3 _ _ h2) hsh).symm
  obtain ⟨nht, nhw⟩ := g3.new hsh
  have nskd : sl ≠ kd := (ne_of_none k1 hsl0).symm
  have nsar : ar ≠ sl := ne_of_none hw.1 hsl0
  have hsh0 : sh ≠ sl := nsh
  refine ⟨_, rfl, many, rfl, by omega, by omega, ?_⟩
  refine for_range (lo := 0) (n := many.toNat) (AskI H tp kd wl ar sl sh hF ws xs ss fn room deep many fi) ?_ ?_ ?_
  · refine ⟨_, [], [], ws, rfl, B4, g4, (List.append_nil ws).symm, w4, h4, h4s, trivial, rfl, (fun _ z => nomatch z), ?_⟩
    show (0 : Int) ≤ 0 + _
    split <;> omega
  · rintro i σ H5 hi ⟨o10, vs, ts, wsi, rfl, B5, g5, hws5, w5, h5, h5s, k5s, hlen, hts, hcn⟩
    have hil : i < ss.length := by omega
    have hss : ss[i]? = some ss[i] := List.getElem?_eq_getElem hil
    have hs1i := hs1 _ (List.getElem_mem hil)
    have hsi := le_sum hs1 (List.getElem_mem hil)
    have htake := sum_take hss
    have hvl := k5s.len
    have e0 : (0 : Int) + (i : Nat) = ((i : Nat) : Int) := by omega
    have put : ∀ (a : Addr) (t : Tm) (H6 : Hp) (ws6 : List Str), But2 tp wl H5 H6 → GS H6 tp kd wl hF ws6 → wsi = ws6 ++ (letsOf t).reverse → okS hF t xs → At H6 t a → okT t → HtLe (deep.toNat + 1) t → (cnts (ts ++ [t]) : Int) ≤ (ss.take (i + 1)).sum + (if fi > 0 then 2 else 0) →
        ∃ l zs y, V.ref sl = .ref l ∧ [V.ref a] = [y] ∧ H6 l = some (.lst zs) ∧ zs.length < sizeLine ∧ AskI H tp kd wl ar sl sh hF ws xs ss fn room deep many fi (i + 1) [some (.ref tp), some (.ref kd), some (.ref ar), some (.int room), some (.int deep), some (.str fn), some (.int many), some (.ref sl), some (.int fi), some (.ref sh), some (.int (0 + (i : Nat)))] (upd H6 l (.lst (zs ++ [y]))) := by
      intro a t H6 ws6 b6 g6 hws6 sc6 at6 ok6 ht6 cn6
      have h6s : H6 sl = some (.lst vs) := b6 _ _ nst nsw h5s
      have tk6 := g5.tk b6
      refine ⟨sl, vs, .ref a, rfl, rfl, h6s, Nat.lt_of_le_of_lt (m := 1000) (by omega) (by decide), _, vs ++ [.ref a], ts ++ [t], ws6, rfl, ?_, ?_, ?_, ?_, ?_, upd_same, ?_, ?_, ?_, cn6⟩
      · exact (B5.trans b6).put hsl0
      · refine g6.put h6s nst nsw nskd (fun _ z => nomatch z) fun x zs z => ?_
        have e := HO.lst.inj z
        cases ts with
        | nil =>
          cases vs with
          | nil => cases e
          | cons _ _ => exact k5s.elim
        | cons t0 tr =>
          cases vs with
          | nil => cases e
          | cons v0 vr =>
            obtain ⟨⟨b0, e0', _⟩, _⟩ := k5s
            rw [e0'] at e
            cases (List.cons.inj e).1
      · rw [hws5, hws6, letsL_app, List.reverse_append, List.append_assoc]
        show _ = ws6 ++ ((letsOf t ++ []).reverse ++ _)
        rw [List.append_nil]
      · have w6 := w5.two b6 g5 naw
        exact ⟨by rw [upd_ne nsar]; exact w6.1, w6.2⟩
      · rw [upd_ne nsh]
        exact b6 _ _ nht nhw h5
      · exact ((k5s.tk tk6).app (us := [.ref a]) (ss := [t]) ⟨⟨a, rfl, at6⟩, trivial⟩).tk (tk_put h6s)
      · rw [List.length_append, hlen]
        rfl
      · intro u hu
        rcases List.mem_append.mp hu with z | z
        · exact hts u z
        · rw [List.mem_singleton.mp z]
          exact ⟨ok6, ht6, sc6⟩
    refine ⟨_, rfl, rfl, _, rfl, ?_⟩
    refine ite_share (P := ¬ (i = 0 ∧ fi > 0)) (fun hp2 => ?_) (fun c z => c (decide_eq_true (by rw [z.1]; rfl))) (fun c kB => ?_)
    · -- the term is drawn
      refine ⟨_, rfl, .inl ⟨rfl, _, SqL.of h5s⟩, _, rfl, _, rfl, _, rfl, _, rfl, _, rfl, sh, _, _, .int ss[i], rfl, rfl, SqL.of h5, ?_, _, rfl, _, _, rfl, rfl, ?_⟩
      · rw [e0]
        exact atI_nat (by rw [List.getElem?_map, hss]; rfl)
      refine ⟨tp, kd, wl, ar, hF, wsi, xs, ss[i], deep - 1, rfl, g5, w5, naw, by omega, hs1i, by omega, by omega, by omega, fun a t ls H6 ws6 b6 e6 g6 gd6 => ?_⟩
      refine put a t H6 ws6 b6 g6 (by rw [gd6.lt]; exact e6) gd6.sc gd6.at_ gd6.ok (gd6.dp.le (by omega)) ?_
      have c6 := gd6.cn
      rw [cnts_app, htake]
      show ((cnts ts + (cnt t + 0) : Nat) : Int) ≤ _
      omega
    · have c' : i = 0 := by
        have := V.int.inj (of_decide_eq_true c)
        omega
      refine ⟨_, rfl, _, _, rfl, rfl, _, rfl, ?_⟩
      refine ite2 (fun c2 => ?_) (fun c2 => ?_)
      · have c2' : fi > 0 := of_decide_eq_true c2
        refine ⟨_, rfl, .inl ⟨rfl, _, SqL.of h5s⟩, _, rfl, ar, xs, rfl, w5, fun a t H6 s6 gd6' => ?_⟩
        have gd6 := gd6' hF
        refine put a t H6 wsi (but2_same s6) (g5.same s6) (by rw [gd6.lt]; exact (List.append_nil wsi).symm) gd6.sc gd6.at_ gd6.ok (gd6.dp.le (by omega)) ?_
        have c6 := gd6.cn
        subst c'
        have hz : ts = [] := List.eq_nil_of_length_eq_zero hlen
        subst hz
        rw [htake, if_pos c2']
        show ((cnt t + 0 : Nat) : Int) ≤ 0 + _ + 2
        omega
      · exact kB fun z => c2 (decide_eq_true z.2)
  · rintro σ H5 ⟨o10, vs, ts, wsi, rfl, B5, g5, hws5, w5, h5, h5s, k5s, hlen, hts, hcn⟩
    refine ⟨_, rfl, _, rfl, sl, _, rfl, .inl ⟨SqL.of h5s, fun pp hpp => ⟨sz (by show 3 ≤ 100000; decide), fun pa hpa => ?_⟩⟩⟩
    have s6 := same_new hpp (.tup vs)
    have s7 := same_new hpa (.tup [.str "ask", .str fn, .ref pp])
    have s67 := s6.trans s7
    have hvl := k5s.len
    refine q pa (mkL (.ask fn) ts) (letsL ts) _ wsi (B5.trans (but2_same s67)) hws5 (g5.same s67) ⟨?_, ?_, ?_, ?_, ?_, lt_mkL⟩
    · exact at_mkL (vs := vs) ⟨by omega, pp, upd_same, s7 _ _ upd_same⟩ (k5s.mono s67)
    · exact ok_mkL (k3.2 fn hfn) fun t ht => (hts t ht).1
    · rw [cnt_mkL]
      have e1 : ss.take many.toNat = ss := List.take_of_length_le (by omega)
      rw [e1] at hcn
      by_cases c : fi > 0
      · rw [if_pos c] at hcn
        have := mx2 c
        omega
      · rw [if_neg c] at hcn
        rcases mx3 c with z | ⟨z1, z2⟩
        · omega
        · have hz : ts = [] := List.eq_nil_of_length_eq_zero (by omega)
          rw [hz]
          show 1 + 0 ≤ _
          omega
    · exact ht_mkL fun t ht => (hts t ht).2.1
    · refine sc_mkL ?_ fun i t hi => (hts t (mem_of_get hi)).2.2
      show hF fn = some ts.length
      rw [mF, hlen]
end
end KB

namespace KB
open PySem L2

theorem stk_ok_app {d : Nat} {hF : Str → Option Nat} {xs : List Str} {ts : List Tm} {t : Tm} (h : ∀ u ∈ ts, okT u ∧ HtLe d u ∧ okS hF u xs) (o : okT t) (k : HtLe d t) (c : okS hF t xs) : ∀ u ∈ ts ++ [t], okT u ∧ HtLe d u ∧ okS hF u xs := fun u hu => by
  rcases List.mem_append.mp hu with z | z
  · exact h u z
  · rw [List.mem_singleton.mp z]
    exact ⟨o, k, c⟩
theorem sum2 {xs : List Int} (h : xs.length = 2) : ∃ a b, xs = [a, b] := by
  match xs, h with
  | [a, b], _ => exact ⟨a, b, rfl⟩
theorem eqv_nilW (ws : List Str) : (!PyData.eqv (.list (ws.map PyData.str)) (.list [])) = !ws.isEmpty := by rw [eqv_nil]

section
variable {P : Program} {w : World} {K : PySem.W.Frag} {mg : Str → Option Value} {base : Heap}
abbrev s_law_term : Stmt := top 39
theorem scLterm : FnScope ["tape", "known", "around", "room", "deep", "words", "word", "x", "shares", "first", "some", "share"] ["tape", "known", "around", "room", "deep"] (defScope s_law_term) := ⟨rfl, rfl, rfl, by decide +kernel, rfl, by decide +kernel, by decide +kernel⟩
def wds10 : List V := [.str "plus", .str "less", .str "tell", .str "let", .str "if", .str "ask", .str "ask", .str "ask", .str "plus", .str "let"]
theorem ok_term (T : Txt K mg) {n : Nat} {f fg fh fs_ fa : Addr} {fd gd hd sd ad : FuncData} (F : Fun K "_law_term" "_law_term" s_law_term f fd) (G_law_digit : FnOk P w K mg base CX0 1 fg gd ["tape", "many"] spDig) (R_law_digit : Ref K mg "_law_digit" fg gd ["tape", "many"])
    (G_law_leaf : FnOk P w K mg base CX0 3 fh hd ["tape", "known", "around"] spLeaf) (R_law_leaf : Ref K mg "_law_leaf" fh hd ["tape", "known", "around"]) (G_law_shares : FnOk P w K mg base CX0 2 fs_ sd ["tape", "room", "many"] spShr) (R_law_shares : Ref K mg "_law_shares" fs_ sd ["tape", "room", "many"])
    (G_law_ask : FnOk P w K mg base CX0 (2 * n + 5) fa ad ["tape", "known", "around", "room", "deep"] (spAsk n)) (R_law_ask : Ref K mg "_law_ask" fa ad ["tape", "known", "around", "room", "deep"])
    (G_law_term : FnOk P w K mg base CX0 (2 * n + 4) f fd ["tape", "known", "around", "room", "deep"] (spTerm n)) (R_law_term : Ref K mg "_law_term" f fd ["tape", "known", "around", "room", "deep"]) : FnOk P w K mg base CX0 (2 * n + 6) f fd ["tape", "known", "around", "room", "deep"] (spTerm (n + 1)) := by
  refine F.ok scLterm (fun vs H Q E h => ?_) (fun cdv A outer s H vs Q E hr h => ?_)
  · obtain ⟨tp, kd, wl, ar, hF, ws, xs, room, deep, rfl, _⟩ := h
    rfl
  obtain ⟨tp, kd, wl, ar, hF, ws, xs, room, deep, rfl, hg, hw, naw, hx, hr1, hr2, hd1, hd2, q⟩ := h
  refine ⟨_, (pss_cons (ps_if (PW.pt (pw_or (pt_cmpR op_lt (pv 3) pe_int (nomark _)) (pw_or1 (pt_cmpR op_eq (pv 4) pe_int (nomark _))))) (pss_one (ps_ret (pe_call G_law_leaf (hr.mono (by omega)) rfl R_law_leaf.m R_law_leaf.k R_law_leaf.b .nil pass0 (pa_cons (pv 0) (pa_cons (pv 1) (pa_cons (pv 2) pa_nil)))))) pss_nil)
    (pss_cons (ps_set (i := 5) scLterm.nd rfl (Or.inl rfl) (pe_lst (pa_cons pe_str (pa_cons pe_str (pa_cons pe_str (pa_cons pe_str (pa_cons pe_str (pa_cons pe_str (pa_cons pe_str (pa_cons pe_str (pa_cons pe_str (pa_cons pe_str pa_nil))))))))))))
    (pss_cons (ps_set (i := 6) scLterm.nd rfl (Or.inl rfl) (pe_ix ix_list (pv 5) (pe_call G_law_digit (hr.mono (by omega)) rfl R_law_digit.m R_law_digit.k R_law_digit.b .nil pass0 (pa_cons (pv 0) (pa_cons pe_int pa_nil))) (fun _ _ => rfl)))
    (pss_cons (ps_if (pt_cmpR op_eq (pv 6) pe_str (nomark _)) (pss_one (ps_ret (pe_call G_law_ask hr rfl R_law_ask.m R_law_ask.k R_law_ask.b .nil pass0 (pa_cons (pv 0) (pa_cons (pv 1) (pa_cons (pv 2) (pa_cons (pv 3) (pa_cons (pv 4) pa_nil)))))))) pss_nil)
    (pss_cons (ps_if (PW.pt (pw_or (pt_cmpR op_eq (pv 6) pe_str (nomark _)) (pw_or1 (pt_cmpR op_lt (pv 3) pe_int (nomark _))))) (pss_one (ps_ret (pe_tup (pa_cons pe_str (pa_cons (pe_call G_law_term (hr.mono (by omega)) rfl R_law_term.m R_law_term.k R_law_term.b .nil pass0 (pa_cons (pv 0) (pa_cons (pv 1) (pa_cons (pv 2) (pa_cons (pe_op op_sub (pv 3) pe_int) (pa_cons (pe_op op_sub (pv 4) pe_int) pa_nil)))))) pa_nil))))) pss_nil)
    (Evl.pss_cut (ps_if (PW.pt (pw_and (pt_cmpR op_eq (pv 6) pe_str (nomark _)) (pw_and1 (pt_cmpR (op_neD hr.units) (pe_dget (hu_of hr) (pv 1) pe_str (fun _ _ => rfl)) (pe_lst pa_nil) (nomark _))))) (pss_cons (ps_set (i := 7) scLterm.nd rfl (Or.inl rfl) (pe_bm0 PySem.F.plainAttrs_list PySem.F.slot_list_pop PySem.F.type_list_pop mt_pop (pe_dget (hu_of hr) (pv 1) pe_str (fun _ _ => rfl))))
    (pss_cons (ps_set (i := 8) scLterm.nd rfl (Or.inl rfl) (pe_call G_law_shares (hr.mono (by omega)) rfl R_law_shares.m R_law_shares.k R_law_shares.b .nil pass0 (pa_cons (pv 0) (pa_cons (pe_op op_sub (pv 3) pe_int) (pa_cons pe_int pa_nil)))))
    (pss_cons (ps_set (i := 9) scLterm.nd rfl (Or.inl rfl) (pe_call G_law_term (hr.mono (by omega)) rfl R_law_term.m R_law_term.k R_law_term.b .nil pass0 (pa_cons (pv 0) (pa_cons (pv 1) (pa_cons (pv 2) (pa_cons (pe_ix ix_list (pv 8) pe_int (fun _ _ => rfl)) (pa_cons (pe_op op_sub (pv 4) pe_int) pa_nil)))))))
    (pss_one (ps_ret (pe_tup (pa_cons pe_str (pa_cons (pv 7) (pa_cons (pv 9) (pa_cons (pe_call G_law_term (hr.mono (by omega)) rfl R_law_term.m R_law_term.k R_law_term.b .nil pass0 (pa_cons (pv 0) (pa_cons (pv 1) (pa_cons (pe_op op_cat (pv 2) (pe_lst (pa_cons (pv 7) pa_nil))) (pa_cons (pe_ix ix_list (pv 8) pe_int (fun _ _ => rfl)) (pa_cons (pe_op op_sub (pv 4) pe_int) pa_nil)))))) pa_nil)))))))))) pss_nil)
    (pss_cons (ps_set (i := 8) scLterm.nd rfl (Or.inl rfl) (pe_call G_law_shares (hr.mono (by omega)) rfl R_law_shares.m R_law_shares.k R_law_shares.b .nil pass0 (pa_cons (pv 0) (pa_cons (pe_op op_sub (pv 3) pe_int) (pa_cons (pe_ix ix_list (pe_lst (pa_cons pe_int (pa_cons pe_int pa_nil))) (pe_callTy call_int1 (by rfl) T.m_int (by decide +kernel) (pa_cons (pe_cmpR op_eq (pv 6) pe_str (nomark _)) pa_nil)) (fun _ _ => rfl)) pa_nil)))))
    (pss_cons (ps_setLc (i := 10) (own := [("share", 11)]) (g := gName 11) (by rfl) scLterm.nd rfl rfl (sw_true rfl rfl rfl (by decide +kernel)) (pi_list (pv 8)) (blkOk_by (own := [("share", 11)]) (N := ["tape", "known", "around", "room", "deep", "words", "word", "x", "shares", "first", "some", "share"]) (sc := defScope s_law_term) (by decide +kernel)) (fun _ _ _ _ _ => (pg_name (i := 11) scLterm.nd rfl (Or.inl rfl))) (fun _ _ _ _ _ => pts_nil) (fun _ _ _ _ _ => (pe_call G_law_term (hr.mono (by omega)) rfl R_law_term.m R_law_term.k R_law_term.b .nil pass0 (pa_cons (pv 0) (pa_cons (pv 1) (pa_cons (pv 2) (pa_cons (pv 11) (pa_cons (pe_op op_sub (pv 4) pe_int) pa_nil))))))))
    (pss_one (ps_ret (pe_op op_catA (pe_tup (pa_cons (pe_ix ix_list (pe_lst (pa_cons (pv 6) (pa_cons pe_str pa_nil))) (pe_callTy call_int1 (by rfl) T.m_int (by decide +kernel) (pa_cons (pe_cmpR op_eq (pv 6) pe_str (nomark _)) pa_nil)) (fun _ _ => rfl)) pa_nil)) (pe_callTy call_tuple_of (by rfl) T.m_tuple (by decide +kernel) (pa_cons (pv 10) pa_nil))))))))))))), ?_⟩
  have leafW : ∀ s5 s6 s7 s8 s9 s10 s11 : Option V, (tRet (tCall spLeaf [] E0 (tCons (tVar 0) (tCons (tVar 1) (tCons (tVar 2) tNil))))) { nx := fun x H' => Q V.non H', rt := Q }
      [some (.ref tp), some (.ref kd), some (.ref ar), some (.int room), some (.int deep), s5, s6, s7, s8, s9, s10, s11] H := by
    intro s5 s6 s7 s8 s9 s10 s11
    refine ⟨_, rfl, _, rfl, _, rfl, tp, .ref kd, ar, xs, rfl, hg.t, hw, by omega, fun a t H3 b3 t3 gd => ?_⟩
    exact q a t [] H3 ws b3.two (List.append_nil ws).symm (hg.one b3 t3) ((gd hF).le (by omega) (by omega))
  refine ⟨_, rfl, _, _, rfl, rfl, _, rfl, ?_⟩
  refine ite2 (fun c1 => ?_) (fun c1 => ?_)
  · exact leafW _ _ _ _ _ _ _
  have hroom : 2 ≤ room := by
    have : ¬ room < 2 := fun z => c1 (decide_eq_true z)
    omega
  refine ⟨_, rfl, rfl, _, rfl, ?_⟩
  refine ite2 (fun c2 => ?_) (fun c2 => ?_)
  · exact leafW _ _ _ _ _ _ _
  have hdeep : 1 ≤ deep := by
    have : deep ≠ 0 := fun z => c2 (decide_eq_true (congrArg V.int z))
    omega
  clear leafW
  -- words, word
  refine ⟨sz (by show 10 ≤ 100000; decide), fun p0 hp0 => ?_⟩
  have s0 := same_new hp0 (.lst wds10)
  have g0 := hg.same s0
  have w0 := hw.but (but_same s0) hg.t
  obtain ⟨n0t, n0w⟩ := hg.new hp0
  refine ⟨_, rfl, _, rfl, tp, 10, rfl, g0.t, by decide, by decide, fun r H1 r0 r1 b1 t1 => ?_⟩
  have g1 := g0.one b1 t1
  have w1 := w0.but b1 g0.t
  have B1 : But2 tp wl H H1 := (but2_same s0).trans b1.two
  obtain ⟨v, hv, hm⟩ := at_some (xs := wds10) r0 (by show r < 10; exact r1)
  refine ⟨p0, _, _, v, rfl, rfl, SqL.of (b1 _ _ n0t upd_same), hv, ?_⟩
  -- the rest, for each word
  have hword : ∃ wd : Str, v = .str wd ∧ (wd = "ask" ∨ wd = "tell" ∨ wd = "let" ∨ wd = "if" ∨ wd = "plus" ∨ wd = "less") := by
    simp only [wds10, List.mem_cons, List.not_mem_nil, or_false] at hm
    rcases hm with z | z | z | z | z | z | z | z | z | z
    · exact ⟨_, z, .inr (.inr (.inr (.inr (.inl rfl))))⟩
    · exact ⟨_, z, .inr (.inr (.inr (.inr (.inr rfl))))⟩
    · exact ⟨_, z, .inr (.inl rfl)⟩
    · exact ⟨_, z, .inr (.inr (.inl rfl))⟩
    · exact ⟨_, z, .inr (.inr (.inr (.inl rfl)))⟩
    · exact ⟨_, z, .inl rfl⟩
    · exact ⟨_, z, .inl rfl⟩
    · exact ⟨_, z, .inl rfl⟩
    · exact ⟨_, z, .inr (.inr (.inr (.inr (.inl rfl))))⟩
    · exact ⟨_, z, .inr (.inr (.inl rfl))⟩
  obtain ⟨wd, rfl, hwd⟩ := hword
  refine ⟨_, rfl, rfl, _, rfl, ?_⟩
  refine ite2 (fun c3 => ?_) (fun c3 => ?_)
  · -- ask
    refine ⟨_, rfl, _, rfl, _, rfl, _, rfl, _, rfl, tp, kd, wl, ar, hF, ws, xs, room, deep, rfl, g1, w1, naw, hx, hroom, hr2, hdeep, by omega, fun a t ls H3 ws3 b3 e3 g3 gd => ?_⟩
    exact q a t ls H3 ws3 (B1.trans b3) e3 g3 gd
  have nask : wd ≠ "ask" := fun z => c3 (decide_eq_true (congrArg V.str z))
  have ndeep : (deep - 1).toNat < n := by omega
  refine ⟨_, rfl, rfl, _, rfl, ?_⟩
  have tellW : ∀ s5 s6 s7 s8 s9 s10 s11 : Option V, (tRet (tTup (tCons (tC (.str "tell")) (tCons (tCall (spTerm n) [] E0 (tCons (tVar 0) (tCons (tVar 1) (tCons (tVar 2) (tCons (tOp (rI0 fun i j => .int (i - j)) (tVar 3) (tC (.int 1))) (tCons (tOp (rI0 fun i j => .int (i - j)) (tVar 4) (tC (.int 1))) tNil)))))) tNil)))) { nx := fun x H' => Q V.non H', rt := Q }
      [some (.ref tp), some (.ref kd), some (.ref ar), some (.int room), some (.int deep), s5, s6, s7, s8, s9, s10, s11] H1 := by
    intro s5 s6 s7 s8 s9 s10 s11
    refine ⟨_, rfl, _, rfl, _, rfl, _, rfl, _, _, rfl, rfl, _, rfl, _, _, rfl, rfl, tp, kd, wl, ar, hF, ws, xs, room - 1, deep - 1, rfl, g1, w1, naw, by omega, by omega, by omega, by omega, ndeep, fun a t ls H3 ws3 b3 e3 g3 gd => ?_⟩
    refine ⟨sz (by show 2 ≤ 100000; decide), fun p hp => ?_⟩
    have s4 := same_new hp (.tup [.str "tell", .ref a])
    refine q p (mkL .tell [t]) ls _ ws3 (B1.trans (b3.trans (but2_same s4))) e3 (g3.same s4) ⟨?_, ?_, ?_, ?_, ?_, ?_⟩
    · exact at_mkL (vs := [.ref a]) ⟨rfl, upd_same⟩ ⟨⟨a, rfl, gd.at_.mono s4⟩, trivial⟩
    · exact ok_mkL trivial fun u hu => by
        rw [List.mem_singleton.mp hu]
        exact gd.ok
    · rw [cnt_mkL]
      have := gd.cn
      show 1 + (cnt t + 0) ≤ _
      omega
    · exact ht_mkL (n := deep.toNat + 1) fun u hu => by
        rw [List.mem_singleton.mp hu]
        exact gd.dp.le (by omega)
    · refine sc_mkL trivial fun i u hi => ?_
      rw [List.mem_singleton.mp (mem_of_get hi)]
      exact gd.sc
    · rw [lt_mkL, letsL_cons, gd.lt]
      exact List.append_nil ls
  refine ite2 (fun c4 => ?_) (fun c4 => ?_)
  · exact tellW _ _ _ _ _ _ _
  have ntell : wd ≠ "tell" := fun z => c4 (decide_eq_true (congrArg V.str z))
  refine ⟨_, rfl, _, _, rfl, rfl, _, rfl, ?_⟩
  refine ite2 (fun c5 => ?_) (fun c5 => ?_)
  · exact tellW _ _ _ _ _ _ _
  have hroom4 : 4 ≤ room := by
    have : ¬ room < 4 := fun z => c5 (decide_eq_true z)
    omega
  clear tellW
  obtain ⟨el, hd', fs, kvs, k1, k2, k3, k4, k5, k6, k7⟩ := g1.k
  have hws := g1.w
  have hwl := g1.wn
  refine ⟨fun σ' H' => Same H1 H' ∧ σ' = [some (.ref tp), some (.ref kd), some (.ref ar), some (.int room), some (.int deep), some (.ref p0), some (.str wd), none, none, none, none, none], ?_, ?_⟩
  · -- let
    refine ⟨_, rfl, rfl, _, rfl, ?_⟩
    refine ite2 (fun c6 => ?_) (fun c6 => ⟨Same.refl _, rfl⟩)
    refine ⟨_, rfl, kd, _, rfl, get_words k1, sz (by show 0 ≤ 100000; decide), fun p1 hp1 => ?_⟩
    have s2 := same_new hp1 (.lst [])
    refine ⟨.list (ws.map PyData.str), .list [], .lst (SqL.of (s2 _ _ hws.1)) (dp_strs ws), .lst (SqL.of upd_same) .nil, shaped_strs hws.2, rfl, _, rfl, ?_⟩
    rw [eqv_nil]
    cases hnil : ws with
    | nil => exact iteF ⟨s2, rfl⟩
    | cons y0 yr =>
      rw [← hnil]
      have hne : ws ≠ [] := by
        rw [hnil]
        exact List.cons_ne_nil _ _
      have hemp : ws.isEmpty = false := by
        rw [hnil]
        rfl
      rw [hemp]
      have g2 := g1.same s2
      have w2 := w1.but (but_same s2) g1.t
      have hws2 := s2 _ _ hws.1
      generalize upd H1 p1 (.lst []) = H2 at s2 g2 w2 hws2
      have hlast : (ws.map V.str)[(ws.map V.str).length - 1]? = some (.str (ws.getLast hne)) := by
        rw [List.length_map, List.getElem?_map, ← List.getLast?_eq_getElem?, List.getLast?_eq_some_getLast hne]
        rfl
      have hxl := hws.2 _ (List.getLast_mem hne)
      have hwsx : ws = ws.dropLast ++ [ws.getLast hne] := (List.dropLast_concat_getLast hne).symm
      generalize ws.getLast hne = xl at hlast hxl hwsx
      refine iteT ⟨_, rfl, kd, _, rfl, get_words (s2 _ _ k1), .inl ⟨rfl, _, SqL.of hws2⟩, wl, _, .str xl, rfl, rfl, hws2, hlast, ?_⟩
      have eD : (ws.map V.str).dropLast = ws.dropLast.map V.str := by rw [List.map_dropLast]
      rw [eD]
      have b3 : But2 tp wl H2 (upd H2 wl (.lst (ws.dropLast.map V.str))) := fun b o _ m h => by
        rw [upd_ne m]
        exact h
      have ntw : tp ≠ wl := (wls_tp hws2 g2.t).symm
      have g3 : GS (upd H2 wl (.lst (ws.dropLast.map V.str))) tp kd wl hF ws.dropLast := g2.step b3 (by
        obtain ⟨z, hz⟩ := g2.t
        exact ⟨z, by rw [upd_ne ntw]; exact hz⟩) ⟨upd_same, fun x hx => hws.2 x ((List.dropLast_sublist ws).subset hx)⟩ (by rw [List.length_dropLast]; omega)
      have w3 := w2.two b3 g2 naw
      have B3 : But2 tp wl H (upd H2 wl (.lst (ws.dropLast.map V.str))) := B1.trans ((but2_same s2).trans b3)
      generalize upd H2 wl (.lst (ws.dropLast.map V.str)) = H3 at b3 g3 w3 B3
      refine ⟨_, rfl, _, rfl, _, _, rfl, rfl, tp, room - 1, 2, rfl, g3.t, by decide, by omega, by omega, fun sh ss H4 b4 t4 hsh h4 hsl4 hs1 hsum => ?_⟩
      obtain ⟨x0, x1, rfl⟩ := sum2 (xs := ss) (by omega)
      have hx0 := hs1 x0 List.mem_cons_self
      have hx1 := hs1 x1 (List.mem_cons_of_mem _ List.mem_cons_self)
      have esum : x0 + x1 ≤ room - 1 := by
        have e : [x0, x1].sum = x0 + (x1 + 0) := rfl
        omega
      have g4 := g3.one b4 t4
      have w4 := w3.but b4 g3.t
      obtain ⟨nht, nhw⟩ := g3.new hsh
      -- first
      refine ⟨_, rfl, _, rfl, _, rfl, _, rfl, sh, _, _, _, rfl, rfl, SqL.of h4, at0, _, rfl, _, _, rfl, rfl, tp, kd, wl, ar, hF, _, xs, x0, deep - 1, rfl, g4, w4, naw, by omega, by omega, by omega, by omega, ndeep, fun a5 t5 ls5 H5 ws5 b5 e5 g5 gd5 => ?_⟩
      have w5 := w4.two b5 g4 naw
      have h5 := b5 _ _ nht nhw h4
      refine ⟨_, rfl, _, rfl, _, rfl, _, rfl, _, rfl, _, rfl, sz (by show 1 ≤ 100000; decide), fun p6 hp6 => ?_⟩
      have s6 := same_new hp6 (.lst [.str xl])
      refine ⟨ar, p6, _, _, rfl, rfl, s6 _ _ w5.1, upd_same, sz (by rw [List.length_map]; show xs.length + 1 ≤ 100000; omega), fun p7 hp7 => ?_⟩
      have s7 := same_new hp7 (.lst (xs.map V.str ++ [.str xl]))
      have s67 := s6.trans s7
      have g7 := g5.same s67
      obtain ⟨_, n7w⟩ := (g5.same s6).new hp7
      have w7 : Wls (upd (upd H5 p6 (.lst [.str xl])) p7 (.lst (xs.map V.str ++ [.str xl]))) p7 (xs ++ [xl]) := by
        refine ⟨?_, fun x hx => ?_⟩
        · rw [upd_same, List.map_append]
          rfl
        · rcases List.mem_append.mp hx with z | z
          · exact hw.2 x z
          · rw [List.mem_singleton.mp z]
            exact hxl
      refine ⟨_, rfl, sh, _, _, _, rfl, rfl, SqL.of (s67 _ _ h5), at1, _, rfl, _, _, rfl, rfl, tp, kd, wl, p7, hF, _, xs ++ [xl], x1, deep - 1, rfl, g7, w7, n7w, ?_, by omega, by omega, by omega, ndeep, fun a8 t8 ls8 H8 ws8 b8 e8 g8 gd8 => ?_⟩
      · rw [List.length_append, List.length_singleton]
        omega
      refine ⟨sz (by show 4 ≤ 100000; decide), fun p9 hp9 => ?_⟩
      have s9 := same_new hp9 (.tup [.str "let", .str xl, .ref a5, .ref a8])
      have tk59 := (tk_same s67).trans ((g7.tk b8).trans (tk_same s9))
      refine q p9 (mkL (.lett xl) [t5, t8]) ([xl] ++ (ls5 ++ ls8)) _ ws8 (B3.trans (b4.two.trans (b5.trans ((but2_same s67).trans (b8.trans (but2_same s9)))))) ?_ (g8.same s9) ⟨?_, ?_, ?_, ?_, ?_, ?_⟩
      · rw [hwsx, e5, e8]
        simp
      · exact at_mkL (vs := [.ref a5, .ref a8]) ⟨rfl, upd_same⟩ ⟨⟨a5, rfl, gd5.at_.tk tk59⟩, ⟨a8, rfl, gd8.at_.mono s9⟩, trivial⟩
      · refine ok_mkL hxl fun u hu => ?_
        rcases List.mem_cons.mp hu with z | z
        · rw [z]
          exact gd5.ok
        · rw [List.mem_singleton.mp z]
          exact gd8.ok
      · have c5 := gd5.cn
        have c8 := gd8.cn
        rw [cnt_mkL]
        show 1 + (cnt t5 + (cnt t8 + 0)) ≤ _
        omega
      · refine ht_mkL (n := deep.toNat + 1) fun u hu => ?_
        rcases List.mem_cons.mp hu with z | z
        · rw [z]
          exact gd5.dp.le (by omega)
        · rw [List.mem_singleton.mp z]
          exact gd8.dp.le (by omega)
      · refine sc_mkL trivial fun i u hi => ?_
        match i, hi with
        | 0, hi =>
          cases (Option.some.inj hi)
          exact gd5.sc
        | 1, hi =>
          cases (Option.some.inj hi)
          exact gd8.sc
        | i + 2, hi => simp at hi
      · rw [lt_mkL, letsL_cons, letsL_cons, gd5.lt, gd8.lt]
        show [xl] ++ (ls5 ++ (ls8 ++ [])) = _
        rw [List.append_nil]
  · rintro σ' H2 ⟨s2, rfl⟩
    have g2 := g1.same s2
    have w2 := w1.but (but_same s2) g1.t
    have B2 : But2 tp wl H H2 := B1.trans (but2_same s2)
    have hx9 : wd = "let" ∨ wd = "if" ∨ wd = "plus" ∨ wd = "less" := by
      rcases hwd with z | z | z
      · exact absurd z nask
      · exact absurd z ntell
      · exact z
    refine ⟨_, rfl, _, rfl, _, _, rfl, rfl, sz (by show 2 ≤ 100000; decide), fun p3 hp3 => ?_⟩
    have s3 := same_new hp3 (.lst [.int 2, .int 3])
    have hm3 : ∃ m : Int, atI [V.int 2, .int 3] (if decide (V.str wd = V.str "if") = true then 1 else 0) = some (.int m) ∧ 2 ≤ m ∧ m ≤ 3 ∧ (wd = "if" → m = 3) ∧ (wd ≠ "if" → m = 2) := by
      by_cases c : wd = "if"
      · exact ⟨3, by rw [if_pos (decide_eq_true (congrArg V.str c))]; exact at1, by decide, by decide, fun _ => rfl, fun z => absurd c z⟩
      · exact ⟨2, by rw [if_neg (by rw [decide_eq_false fun z => c (V.str.inj z)]; exact Bool.false_ne_true)]; exact at0, by decide, by decide, fun z => absurd z c, fun _ => rfl⟩
    obtain ⟨m, hm0, hm1, hm2, hm4, hm5⟩ := hm3
    refine ⟨_, rfl, rfl, .inr ⟨_, rfl, p3, _, _, _, rfl, rfl, SqL.of upd_same, hm0, ?_⟩⟩
    refine ⟨tp, room - 1, m, rfl, g2.t.same s3, by omega, by omega, by omega, fun sh ss H4 b4 t4 hsh h4 hsl4 hs1 hsum => ?_⟩
    have g3 := g2.same s3
    have g4 := g3.one b4 t4
    have B4 : But2 tp wl H H4 := B2.trans ((but2_same s3).trans b4.two)
    have w4 := (w2.but (but_same s3) g2.t).but b4 g3.t
    obtain ⟨nht, nhw⟩ := g3.new hsh
    refine ⟨_, rfl, sh, rfl, ⟨_, SqL.of h4⟩, fun D hD => lc_list (K := K) (a := sh) (xs := ss.map V.int) (fun j H' => ∃ wsi, But2 tp wl H H' ∧ GS H' tp kd wl hF wsi ∧ Wls H' ar xs ∧ H' sh = some (.lst (ss.map V.int)) ∧ ∃ vs ts, ws = wsi ++ (letsL ts).reverse ∧ H' D = some (.lst vs) ∧ Stk H' vs ts ∧ ts.length = j ∧ (∀ t ∈ ts, okT t ∧ HtLe (deep.toNat + 1) t ∧ okS hF t xs) ∧ (cnts ts : Int) ≤ (ss.take j).sum) ?_ ?_ ?_ ?_⟩
    · have s5 := same_new hD (.lst [])
      exact ⟨ws, B4.trans (but2_same s5), g4.same s5, w4.but (but_same s5) g4.t, s5 _ _ h4, [], [], (List.append_nil ws).symm, upd_same, trivial, rfl, (fun _ z => nomatch z), by show (0 : Int) ≤ 0; decide⟩
    · rintro j H' _ ⟨_, _, _, _, h, _⟩
      exact SqL.of h
    · rintro j x H5 hx ⟨wsi, B5, g5, w5, h5, vs, ts, hws5, hD5, k5s, hlen, hts, hcn⟩
      rw [List.getElem?_map] at hx
      obtain ⟨z, hz, rfl⟩ : ∃ z, ss[j]? = some z ∧ V.int z = x := by
        cases e : ss[j]? with
        | none =>
          rw [e] at hx
          cases hx
        | some z =>
          rw [e] at hx
          exact ⟨z, rfl, Option.some.inj hx⟩
      have hzm := mem_of_get hz
      have hz1 := hs1 z hzm
      have hz2 := le_sum hs1 hzm
      have htake := sum_take hz
      obtain ⟨nDt, nDw⟩ := g4.new hD
      have hDsh : D ≠ sh := (ne_of_none h4 hD).symm
      have hDkd : D ≠ kd := by
        obtain ⟨_, _, _, _, kk, _⟩ := g4.k
        exact (ne_of_none kk hD).symm
      have hDar : ar ≠ D := ne_of_none w4.1 hD
      have hjl : j < ss.length := (List.getElem?_eq_some_iff.mp hz).1
      have hvl := k5s.len
      have hD0 : H D = none := by
        cases e : H D with
        | none => rfl
        | some o =>
          rw [B4 _ _ nDt nDw e] at hD
          cases hD
      refine ⟨rfl, ?_⟩
      dsimp only [tYes]
      refine iteT ?_
      refine ⟨_, rfl, _, rfl, _, rfl, _, rfl, _, rfl, _, _, rfl, rfl, tp, kd, wl, ar, hF, wsi, xs, z, deep - 1, rfl, g5, w5, naw, by omega, hz1, by omega, by omega, ndeep, fun a t ls H6 ws6 b6 e6 g6 gd6 => ?_⟩
      have h6D := b6 _ _ nDt nDw hD5
      have tk6 := g5.tk b6
      refine ⟨vs, h6D, Nat.lt_of_le_of_lt (m := 1000) (by omega) (by decide), ws6, (B5.trans b6).put hD0, ?_, ?_, ?_, vs ++ [.ref a], ts ++ [t], ?_, upd_same, ?_, ?_, ?_, ?_⟩
      · refine g6.put h6D nDt nDw hDkd (fun _ z => nomatch z) fun x zs z => ?_
        have e := HO.lst.inj z
        cases ts with
        | nil =>
          cases vs with
          | nil => cases e
          | cons _ _ => exact k5s.elim
        | cons t0 tr =>
          cases vs with
          | nil => cases e
          | cons v0 vr =>
            obtain ⟨⟨b0, e0', _⟩, _⟩ := k5s
            rw [e0'] at e
            cases (List.cons.inj e).1
      · have w6 := w5.two b6 g5 naw
        exact ⟨by rw [upd_ne hDar]; exact w6.1, w6.2⟩
      · rw [upd_ne hDsh.symm]
        exact b6 _ _ nht nhw h5
      · rw [hws5, e6, letsL_app, letsL_cons, gd6.lt, List.reverse_append, List.append_assoc]
        show _ = ws6 ++ ((ls ++ []).reverse ++ _)
        rw [List.append_nil]
      · exact ((k5s.tk tk6).app (us := [.ref a]) (ss := [t]) ⟨⟨a, rfl, gd6.at_⟩, trivial⟩).tk (tk_put h6D)
      · rw [List.length_append, hlen]
        rfl
      · exact stk_ok_app hts gd6.ok (gd6.dp.le (by omega)) gd6.sc
      · have c6 := gd6.cn
        rw [cnts_app, htake]
        show ((cnts ts + (cnt t + 0) : Nat) : Int) ≤ _
        omega
    · rintro H5 ⟨wsi, B5, g5, w5, h5, vs, ts, hws5, hD5, k5s, hlen, hts, hcn⟩
      rw [List.length_map] at hlen hcn
      rw [List.take_length] at hcn
      have hvl := k5s.len
      refine ⟨_, rfl, sz (by show 2 ≤ 100000; decide), fun p6 hp6 => ?_⟩
      have s6 := same_new hp6 (.lst [.str wd, .str "plus"])
      have hw6 : ∃ hx : Hd, atI [V.str wd, .str "plus"] (if decide (V.str wd = V.str "let") = true then 1 else 0) = some (.str (hs hx)) ∧ okH hx ∧ hdLets hx = [] ∧ (∀ nn ys, okN hF hx nn ys) ∧ (∀ ii ys, inn hx ii ys = ys) ∧ (∀ (H' : Hp) (p : Addr), H' p = some (.tup (.str (hs hx) :: vs)) → Lay H' p hx vs) := by
        rcases hx9 with z | z | z | z
        · subst z
          exact ⟨.plus, at1, trivial, rfl, fun _ _ => trivial, fun _ _ => rfl, fun H' p h => ⟨by rw [hvl, hlen]; have := hm5 (by decide); omega, h⟩⟩
        · subst z
          exact ⟨.iff, at0, trivial, rfl, fun _ _ => trivial, fun _ _ => rfl, fun H' p h => ⟨by rw [hvl, hlen]; have := hm4 rfl; omega, h⟩⟩
        · subst z
          exact ⟨.plus, at0, trivial, rfl, fun _ _ => trivial, fun _ _ => rfl, fun H' p h => ⟨by rw [hvl, hlen]; have := hm5 (by decide); omega, h⟩⟩
        · subst z
          exact ⟨.less, at0, trivial, rfl, fun _ _ => trivial, fun _ _ => rfl, fun H' p h => ⟨by rw [hvl, hlen]; have := hm5 (by decide); omega, h⟩⟩
      obtain ⟨hx, hxa, hxo, hxn, hxN, hxi, hxl⟩ := hw6
      refine ⟨_, rfl, rfl, .inr ⟨_, rfl, p6, _, _, _, rfl, rfl, SqL.of upd_same, hxa, sz (by show 1 ≤ 100000; decide), fun p7 hp7 => ?_⟩⟩
      have s7 := same_new hp7 (.tup [.str (hs hx)])
      have s67 := s6.trans s7
      refine ⟨_, rfl, D, _, rfl, .inl ⟨SqL.of (s67 _ _ hD5), fun p8 hp8 => ?_⟩⟩
      have s8 := same_new hp8 (.tup vs)
      have s68 := s67.trans s8
      refine catA_of (s8 _ _ upd_same) upd_same (by show 1 + vs.length ≤ 100000; omega) fun p9 H9 s9 h9 => ?_
      have s69 := s68.trans s9
      refine q p9 (mkL hx ts) (letsL ts) H9 wsi (B5.trans (but2_same s69)) hws5 (g5.same s69) ⟨?_, ?_, ?_, ?_, ?_, ?_⟩
      · exact at_mkL (hxl H9 p9 h9) (k5s.mono s69)
      · exact ok_mkL hxo fun t ht => (hts t ht).1
      · rw [cnt_mkL]
        omega
      · exact ht_mkL (n := deep.toNat + 1) fun t ht => (hts t ht).2.1
      · refine sc_mkL (hxN _ _) fun i t hi => ?_
        rw [hxi]
        exact (hts t (mem_of_get hi)).2.2
      · rw [lt_mkL, hxn]
        rfl
theorem no_term {f : Addr} {fd : FuncData} {k : Nat} : FnOk P w K mg base CX0 k f fd ["tape", "known", "around", "room", "deep"] (spTerm 0) := by
  have no : ∀ vs H Q E, ¬ spTerm 0 vs H Q E := fun vs H Q E h => by
    obtain ⟨tp, kd, wl, ar, hF, ws, xs, room, deep, _, _, _, _, _, _, _, _, h0, _⟩ := h
    omega
  exact ⟨fun vs H Q E h => absurd h (no vs H Q E), fun A outer s H args us vs Q E _ _ _ _ h => absurd h (no vs H Q E)⟩
theorem all_term (T : Txt K mg) {f fg fh fs_ fl_ fa : Addr} {fd gd hd sd ld ad : FuncData} (F : Fun K "_law_term" "_law_term" s_law_term f fd) (FA : Fun K "_law_ask" "_law_ask" s_law_ask fa ad)
    (G_law_digit : FnOk P w K mg base CX0 1 fg gd ["tape", "many"] spDig) (R_law_digit : Ref K mg "_law_digit" fg gd ["tape", "many"])
    (G_law_leaf : FnOk P w K mg base CX0 3 fh hd ["tape", "known", "around"] spLeaf) (R_law_leaf : Ref K mg "_law_leaf" fh hd ["tape", "known", "around"]) (G_law_shares : FnOk P w K mg base CX0 2 fs_ sd ["tape", "room", "many"] spShr) (R_law_shares : Ref K mg "_law_shares" fs_ sd ["tape", "room", "many"])
    (G_law_less_one : FnOk P w K mg base CX0 1 fl_ ld ["around"] spLess) (R_law_less_one : Ref K mg "_law_less_one" fl_ ld ["around"])
    (R_law_term : Ref K mg "_law_term" f fd ["tape", "known", "around", "room", "deep"]) (R_law_ask : Ref K mg "_law_ask" fa ad ["tape", "known", "around", "room", "deep"]) : ∀ n : Nat, FnOk P w K mg base CX0 (2 * n + 4) f fd ["tape", "known", "around", "room", "deep"] (spTerm n)
  | 0 => no_term
  | n + 1 => by
    have ih := all_term T F FA G_law_digit R_law_digit G_law_leaf R_law_leaf G_law_shares R_law_shares G_law_less_one R_law_less_one R_law_term R_law_ask n
    exact ok_term T F G_law_digit R_law_digit G_law_leaf R_law_leaf G_law_shares R_law_shares (ok_ask T FA G_law_digit R_law_digit G_law_leaf R_law_leaf G_law_shares R_law_shares G_law_less_one R_law_less_one ih R_law_term) R_law_ask ih R_law_term
end
end KB

namespace KB
open PySem L2

/-! ### the words that are drawn -/
def lettersS : Str := "abcdefghijklmnopqrstuvwxyz"
def sgn (i : Nat) : Str := ⟨#[97 + i % 26]⟩
def endsL : List Str := ["", "a", "omelons"]
def someL : List Str := ["give", "ask", "post", "plus", "less", "name", "number", "to", "as", "f", "x", "aq", "bq", "lets", "ifs", "ina", "homes", "q"]
def w0 (turn : Nat) (e : Str) (k : Nat) : Str := sgn (turn + k) ++ e
def w1 (turn : Nat) (k : Nat) : Str := repS (sgn (turn + k / 8)) (1 + (k : Int) % 8)
def w2 (turn : Nat) (k : Nat) : Str := someL.getD ((turn + k) % 18) ""
def good16 (f : Nat → Str) : Bool := ((List.range 16).map f).all isW && decide ((List.range 16).map f).Nodup
theorem good_w0 : ∀ turn < 26, ∀ e ∈ endsL, good16 (w0 turn e) = true := by decide +kernel
theorem good_w1 : ∀ turn < 26, good16 (w1 turn) = true := by decide +kernel
theorem good_w2 : ∀ turn < 26, good16 (w2 turn) = true := by decide +kernel
theorem good_of {f : Nat → Str} (h : good16 f = true) {n : Nat} (hn : n ≤ 16) : (∀ x ∈ (List.range n).map f, isW x = true) ∧ ((List.range n).map f).Nodup := by
  unfold good16 at h
  rw [Bool.and_eq_true] at h
  have hs : ((List.range n).map f).Sublist ((List.range 16).map f) := (List.range_sublist.mpr hn).map f
  exact ⟨fun x hx => List.all_eq_true.mp h.1 x (hs.subset hx), (of_decide_eq_true h.2).sublist hs⟩
theorem letters_at {i : Int} (h0 : 0 ≤ i) (h1 : i < 26) : atI lettersS.cps.toList i = some (97 + i.toNat) := by
  have e : lettersS.cps.toList = (List.range 26).map (97 + ·) := by decide +kernel
  rw [e]
  obtain ⟨n, rfl⟩ : ∃ n : Nat, i = (n : Int) := ⟨i.toNat, by omega⟩
  rw [Int.toNat_natCast]
  refine atI_nat ?_
  rw [List.getElem?_map, List.getElem?_range (by omega)]
  rfl
theorem range_push {f : Nat → Str} (i : Nat) : ((List.range i).map f).map V.str ++ [V.str (f i)] = ((List.range (i + 1)).map f).map V.str := by
  rw [List.range_succ, List.map_append, List.map_append]
  rfl

section
variable {P : Program} {w : World} {K : PySem.W.Frag} {mg : Str → Option Value} {base : Heap}
def spWords : Sp := fun vs H Q _ => ∃ (tp : Addr) (many : Int), vs = [.ref tp, .int many] ∧ Tp H tp ∧ 0 ≤ many ∧ many ≤ 16 ∧
  ∀ (p : Addr) (xs : List Str) (H' : Hp), But1 tp H H' → Tp H' tp → H p = none → Wls H' p xs → (xs.length : Int) = many → xs.Nodup → Q (.ref p) H'
abbrev s_law_words : Stmt := top 33
theorem scLwords : FnScope ["tape", "many", "letters", "way", "turn", "ends", "k", "some"] ["tape", "many"] (defScope s_law_words) := ⟨rfl, rfl, rfl, by decide +kernel, rfl, by decide +kernel, by decide +kernel⟩
theorem ok_words (T : Txt K mg) {f g : Addr} {fd gd : FuncData} (F : Fun K "_law_words" "_law_words" s_law_words f fd) (G_law_digit : FnOk P w K mg base CX0 1 g gd ["tape", "many"] spDig) (R_law_digit : Ref K mg "_law_digit" g gd ["tape", "many"]) : FnOk P w K mg base CX0 2 f fd ["tape", "many"] spWords := by
  refine F.ok scLwords (fun vs H Q E h => ?_) (fun cdv A outer s H vs Q E hr h => ?_)
  · obtain ⟨tp, many, rfl, _⟩ := h
    rfl
  obtain ⟨tp, many, rfl, ht, hm0, hm1, q⟩ := h
  refine ⟨_, (pss_cons (ps_set (i := 2) scLwords.nd rfl (Or.inr rfl) pe_str)
    (pss_cons (ps_set (i := 3) scLwords.nd rfl (Or.inl rfl) (pe_call G_law_digit hr rfl R_law_digit.m R_law_digit.k R_law_digit.b .nil pass0 (pa_cons (pv 0) (pa_cons pe_int pa_nil))))
    (pss_cons (ps_set (i := 4) scLwords.nd rfl (Or.inr rfl) (pe_call G_law_digit hr rfl R_law_digit.m R_law_digit.k R_law_digit.b .nil pass0 (pa_cons (pv 0) (pa_cons pe_int pa_nil))))
    (pss_cons (ps_if (pt_cmpR op_eq (pv 3) pe_int (nomark _)) (pss_cons (ps_set (i := 5) scLwords.nd rfl (Or.inr rfl) (pe_ix ix_list (pe_lst (pa_cons pe_str (pa_cons pe_str (pa_cons pe_str pa_nil)))) (pe_call G_law_digit hr rfl R_law_digit.m R_law_digit.k R_law_digit.b .nil pass0 (pa_cons (pv 0) (pa_cons pe_int pa_nil))) (fun _ _ => rfl)))
    (pss_one (ps_ret (pe_lc (own := [("k", 6)]) (g := gName 6) (by rfl) scLwords.nd (pi_range1 rfl T.m_range (pa_cons (pv 1) pa_nil)) (blkOk_by (own := [("k", 6)]) (N := ["tape", "many", "letters", "way", "turn", "ends", "k", "some"]) (sc := defScope s_law_words) (by decide +kernel)) (fun _ _ _ _ _ => (pg_name (i := 6) scLwords.nd rfl (Or.inl rfl))) (fun _ _ _ _ _ => pts_nil) (fun _ _ _ _ _ => (pe_op op_add_str (pe_ix ix_str (pv 2) (pe_op op_mod (pe_op op_add (pv 4) (pv 6)) pe_int) (fun _ _ => rfl)) (pv 5))))))) pss_nil)
    (pss_cons (ps_if (pt_cmpR op_eq (pv 3) pe_int (nomark _)) (pss_one (ps_ret (pe_lc (own := [("k", 6)]) (g := gName 6) (by rfl) scLwords.nd (pi_range1 rfl T.m_range (pa_cons (pv 1) pa_nil)) (blkOk_by (own := [("k", 6)]) (N := ["tape", "many", "letters", "way", "turn", "ends", "k", "some"]) (sc := defScope s_law_words) (by decide +kernel)) (fun _ _ _ _ _ => (pg_name (i := 6) scLwords.nd rfl (Or.inl rfl))) (fun _ _ _ _ _ => pts_nil) (fun _ _ _ _ _ => (pe_op op_mul_str (pe_ix ix_str (pv 2) (pe_op op_mod (pe_op op_add (pv 4) (pe_op op_fdiv (pv 6) pe_int)) pe_int) (fun _ _ => rfl)) (pe_op op_add pe_int (pe_op op_mod (pv 6) pe_int))))))) pss_nil)
    (pss_cons (ps_set (i := 7) scLwords.nd rfl (Or.inr rfl) (pe_lst (pa_cons pe_str (pa_cons pe_str (pa_cons pe_str (pa_cons pe_str (pa_cons pe_str (pa_cons pe_str (pa_cons pe_str (pa_cons pe_str (pa_cons pe_str (pa_cons pe_str (pa_cons pe_str pa_nil)))))))))))))
    (pss_cons (ps_set (i := 7) scLwords.nd rfl (Or.inr rfl) (pe_op op_cat (pv 7) (pe_lst (pa_cons pe_str (pa_cons pe_str (pa_cons pe_str (pa_cons pe_str (pa_cons pe_str (pa_cons pe_str (pa_cons pe_str pa_nil))))))))))
    (pss_one (ps_ret (pe_lc (own := [("k", 6)]) (g := gName 6) (te := tOp (rIxL K) (tVar 7) (tOp (rI (fun _ j => 0 < j) fun i j => .int (i % j)) (tOp (rI0 fun i j => .int (i + j)) (tVar 4) (tVar 6)) (tC (.int 18)))) (by rfl) scLwords.nd (pi_range1 rfl T.m_range (pa_cons (pv 1) pa_nil)) (blkOk_by (own := [("k", 6)]) (N := ["tape", "many", "letters", "way", "turn", "ends", "k", "some"]) (sc := defScope s_law_words) (by decide +kernel)) (fun _ _ _ _ _ => (pg_name (i := 6) scLwords.nd rfl (Or.inl rfl))) (fun _ _ _ _ _ => pts_nil) (fun _ _ _ _ _ => (pe_ix ix_list (pv 7) (pe_op op_mod (pe_op op_add (pv 4) (pv 6)) pe_int) (fun _ _ => rfl))))))))))))), ?_⟩
  have fin : ∀ (f : Nat → Str), good16 f = true → ∀ (H1 : Hp) (D : Addr) (H' : Hp), But1 tp H H1 → Tp H1 tp → H1 D = none → Same H1 H' → H' D = some (.lst (((List.range many.toNat).map f).map V.str)) → Q (.ref D) H' := by
    intro f hf H1 D H' b1 t1 hD s1 h1
    obtain ⟨e1, e2⟩ := good_of hf (n := many.toNat) (by omega)
    refine q D _ H' (b1.trans (but_same s1)) (t1.same s1) ?_ ⟨h1, e1⟩ (by rw [List.length_map, List.length_range]; omega) e2
    cases e : H D with
    | none => rfl
    | some o =>
      obtain ⟨z, hz⟩ := t1
      rw [b1 _ _ (ne_of_none hz hD).symm e] at hD
      cases hD
  refine ⟨_, rfl, tp, 3, rfl, ht, by decide, by decide, fun way H1 _ _ b1 t1 => ?_⟩
  refine ⟨_, rfl, tp, 26, rfl, t1, by decide, by decide, fun turn H2 r0 r1 b2 t2 => ?_⟩
  have b12 := b1.trans b2
  refine ⟨_, rfl, rfl, _, rfl, ?_⟩
  refine ite2 (fun c1 => ?_) (fun c1 => ?_)
  · refine ⟨sz (by show 3 ≤ 100000; decide), fun p hp => ?_⟩
    have s3 := same_new hp (.lst [.str "", .str "a", .str "omelons"])
    have np : p ≠ tp := by
      obtain ⟨z, hz⟩ := t2
      exact (ne_of_none hz hp).symm
    refine ⟨_, rfl, tp, 3, rfl, t2.same s3, by decide, by decide, fun r H3 r2 r3 b3 t3 => ?_⟩
    obtain ⟨v, hv, hm⟩ := at_some (xs := endsL.map V.str) r2 r3
    obtain ⟨e, he, rfl⟩ := List.mem_map.mp hm
    have hel : e.length ≤ 100 := by
      have : ∀ x ∈ endsL, x.length ≤ 100 := by decide +kernel
      exact this e he
    refine ⟨p, _, _, _, rfl, rfl, SqL.of (b3 _ _ np upd_same), hv, ?_⟩
    have b4 := (b12.trans (but_same s3)).trans b3
    refine ⟨_, rfl, many, rfl, by omega, by omega, fun D hD => lc_range (lo := 0) (n := many.toNat) (fun i H' => Same H3 H' ∧ H' D = some (.lst (((List.range i).map (w0 turn.toNat e)).map V.str))) ⟨same_new hD _, upd_same⟩ ?_ ?_⟩
    · rintro i H' hi ⟨s5, h5⟩
      have ei : (turn + (0 + (i : Nat))) % 26 = (((turn.toNat + i) % 26 : Nat) : Int) := by omega
      refine ⟨rfl, ?_⟩
      dsimp only [tYes]
      refine iteT ?_
      refine ⟨_, rfl, _, rfl, _, rfl, _, _, rfl, rfl, _, _, rfl, rfl, (by show (0 : Int) < 26; decide), lettersS, _, _, rfl, rfl, (by decide +kernel), letters_at (Int.emod_nonneg _ (by decide)) (Int.emod_lt_of_pos _ (by decide)), ?_⟩
      refine ⟨_, rfl, _, _, rfl, rfl, sz (by show 1 + e.length ≤ 100000; omega), ?_⟩
      refine ⟨_, h5, Nat.lt_of_le_of_lt (m := 100) (by rw [List.length_map, List.length_map, List.length_range]; omega) (by decide), same_mut s5 hD, ?_⟩
      rw [upd_same, ← range_push]
      have e9 : w0 turn.toNat e i = (⟨#[97 + ((turn + (0 + (i : Nat))) % 26).toNat]⟩ : Str) ++ e := by
        rw [ei, Int.toNat_natCast]
        rfl
      rw [e9]
    · rintro H' ⟨s5, h5⟩
      exact fin _ (good_w0 turn.toNat (by omega) e he) H3 D H' b4 t3 hD s5 h5
  refine ⟨_, rfl, rfl, _, rfl, ?_⟩
  refine ite2 (fun c2 => ?_) (fun c2 => ?_)
  · refine ⟨_, rfl, many, rfl, by omega, by omega, fun D hD => lc_range (lo := 0) (n := many.toNat) (fun i H' => Same H2 H' ∧ H' D = some (.lst (((List.range i).map (w1 turn.toNat)).map V.str))) ⟨same_new hD _, upd_same⟩ ?_ ?_⟩
    · rintro i H' hi ⟨s5, h5⟩
      have ei : (turn + (0 + (i : Nat)) / 8) % 26 = (((turn.toNat + i / 8) % 26 : Nat) : Int) := by omega
      refine ⟨rfl, ?_⟩
      dsimp only [tYes]
      refine iteT ?_
      refine ⟨_, rfl, _, rfl, _, rfl, _, _, rfl, rfl, ⟨by decide, by decide⟩, _, _, rfl, rfl, _, _, rfl, rfl, (by show (0 : Int) < 26; decide), lettersS, _, _, rfl, rfl, (by decide +kernel), letters_at (Int.emod_nonneg _ (by decide)) (Int.emod_lt_of_pos _ (by decide)), ?_⟩
      refine ⟨_, rfl, _, _, rfl, rfl, (by show (0 : Int) < 8; decide), _, _, rfl, rfl, _, _, rfl, rfl, by omega, by omega, Nat.le_refl 1, by show 1 ≤ 1000; decide, ?_⟩
      refine ⟨_, h5, Nat.lt_of_le_of_lt (m := 100) (by rw [List.length_map, List.length_map, List.length_range]; omega) (by decide), same_mut s5 hD, ?_⟩
      rw [upd_same, ← range_push]
      have e9 : w1 turn.toNat i = repS (⟨#[97 + ((turn + (0 + (i : Nat)) / 8) % 26).toNat]⟩ : Str) (1 + (0 + (i : Nat)) % 8) := by
        rw [ei, Int.toNat_natCast, Int.zero_add]
        rfl
      rw [e9]
    · rintro H' ⟨s5, h5⟩
      exact fin _ (good_w1 turn.toNat (by omega)) H2 D H' b12 t2 hD s5 h5
  · refine ⟨sz (by show 11 ≤ 100000; decide), fun p1 hp1 => ?_⟩
    have s3 := same_new hp1 (.lst ((someL.take 11).map V.str))
    refine ⟨_, rfl, sz (by show 7 ≤ 100000; decide), fun p2 hp2 => ?_⟩
    have s4 := same_new hp2 (.lst ((someL.drop 11).map V.str))
    refine ⟨p1, p2, (someL.take 11).map V.str, (someL.drop 11).map V.str, rfl, rfl, s4 _ _ upd_same, upd_same, sz (by show 18 ≤ 100000; decide), fun p3 hp3 => ?_⟩
    have s5 := same_new hp3 (.lst ((someL.take 11).map V.str ++ (someL.drop 11).map V.str))
    have s35 := s3.trans (s4.trans s5)
    have h3 : upd (upd (upd H2 p1 (.lst ((someL.take 11).map V.str))) p2 (.lst ((someL.drop 11).map V.str))) p3 (.lst ((someL.take 11).map V.str ++ (someL.drop 11).map V.str)) p3 = some (.lst (someL.map V.str)) := upd_same
    have t3 := t2.same s35
    have b3 := b12.trans (but_same s35)
    refine ⟨_, rfl, many, rfl, by omega, by omega, fun D hD => lc_range (lo := 0) (n := many.toNat) (fun i H' => Same (upd (upd (upd H2 p1 (.lst ((someL.take 11).map V.str))) p2 (.lst ((someL.drop 11).map V.str))) p3 (.lst ((someL.take 11).map V.str ++ (someL.drop 11).map V.str))) H' ∧ H' D = some (.lst (((List.range i).map (w2 turn.toNat)).map V.str))) ⟨same_new hD _, upd_same⟩ ?_ ?_⟩
    · rintro i H' hi ⟨s6, h6⟩
      have ei : (turn + (0 + (i : Nat))) % 18 = (((turn.toNat + i) % 18 : Nat) : Int) := by omega
      have hat : atI (someL.map V.str) ((turn + (0 + (i : Nat))) % 18) = some (V.str (w2 turn.toNat i)) := by
        rw [ei]
        refine atI_nat ?_
        rw [List.getElem?_map]
        unfold w2
        have hl : (turn.toNat + i) % 18 < someL.length := Nat.mod_lt _ (by decide)
        rw [List.getElem?_eq_getElem hl, List.getD_eq_getElem?_getD, List.getElem?_eq_getElem hl]
        rfl
      refine ⟨rfl, ?_⟩
      dsimp only [tYes]
      refine iteT ?_
      refine ⟨_, rfl, _, rfl, _, rfl, _, _, rfl, rfl, _, _, rfl, rfl, (by show (0 : Int) < 18; decide), p3, _, _, _, rfl, rfl, SqL.of (s6 _ _ h3), hat, ?_⟩
      refine ⟨_, h6, Nat.lt_of_le_of_lt (m := 100) (by rw [List.length_map, List.length_map, List.length_range]; omega) (by decide), same_mut s6 hD, ?_⟩
      rw [upd_same, ← range_push]
    · rintro H' ⟨s6, h6⟩
      exact fin _ (good_w2 turn.toNat (by omega)) _ D H' b3 t3 hD s6 h6
end
end KB

namespace KB
open PySem L2

section
variable {P : Program} {w : World} {K : PySem.W.Frag} {mg : Str → Option Value} {base : Heap}
/-! ### _law_body -/
def spBody : Sp := fun vs H Q _ => ∃ (tp kd wl nl : Addr) (hF : Str → Option Nat) (ws xs : List Str) (room : Int), vs = [.ref tp, .ref kd, .ref nl, .int room] ∧ GS H tp kd wl hF ws ∧ Wls H nl xs ∧ nl ≠ wl ∧ xs.length ≤ 100 ∧ 8 ≤ room ∧ room ≤ 40 ∧
  ∀ a t ls H' ws', But2 tp wl H H' → ws = ws' ++ List.reverse ls → GS H' tp kd wl hF ws' → Gd H' a room.toNat 13 hF xs ls t → Q (.ref a) H'
abbrev s_law_body : Stmt := top 40
theorem scLbody : FnScope ["tape", "known", "names", "room", "shares", "one"] ["tape", "known", "names", "room"] (defScope s_law_body) := ⟨rfl, rfl, rfl, by decide +kernel, rfl, by decide +kernel, by decide +kernel⟩
theorem ok_body (T : Txt K mg) {f fg fs_ ft : Addr} {fd gd sd td : FuncData} (F : Fun K "_law_body" "_law_body" s_law_body f fd) (G_law_digit : FnOk P w K mg base CX0 1 fg gd ["tape", "many"] spDig) (R_law_digit : Ref K mg "_law_digit" fg gd ["tape", "many"])
    (G_law_shares : FnOk P w K mg base CX0 2 fs_ sd ["tape", "room", "many"] spShr) (R_law_shares : Ref K mg "_law_shares" fs_ sd ["tape", "room", "many"])
    (G_law_term : FnOk P w K mg base CX0 28 ft td ["tape", "known", "around", "room", "deep"] (spTerm 12)) (R_law_term : Ref K mg "_law_term" ft td ["tape", "known", "around", "room", "deep"]) : FnOk P w K mg base CX0 29 f fd ["tape", "known", "names", "room"] spBody := by
  refine F.ok scLbody (fun vs H Q E h => ?_) (fun cdv A outer s H vs Q E hr h => ?_)
  · obtain ⟨tp, kd, wl, nl, hF, ws, xs, room, rfl, _⟩ := h
    rfl
  obtain ⟨tp, kd, wl, nl, hF, ws, xs, room, rfl, hg, hw, nnw, hx, hr1, hr2, q⟩ := h
  refine ⟨_, (pss_cons (ps_if (PW.pt (pw_and (pt_cmpR (op_neD hr.units) (pv 2) (pe_lst pa_nil) (nomark _)) (pw_and1 (pt_cmpR op_gt (pe_call G_law_digit (hr.mono (by omega)) rfl R_law_digit.m R_law_digit.k R_law_digit.b .nil pass0 (pa_cons (pv 0) (pa_cons pe_int pa_nil))) pe_int (nomark _))))) (pss_cons (ps_set (i := 4) scLbody.nd rfl (Or.inl rfl) (pe_call G_law_shares (hr.mono (by omega)) rfl R_law_shares.m R_law_shares.k R_law_shares.b .nil pass0 (pa_cons (pv 0) (pa_cons (pe_op op_sub (pv 3) pe_int) (pa_cons pe_int pa_nil)))))
    (pss_cons (ps_set (i := 5) scLbody.nd rfl (Or.inl rfl) (pe_call G_law_term hr rfl R_law_term.m R_law_term.k R_law_term.b .nil pass0 (pa_cons (pv 0) (pa_cons (pv 1) (pa_cons (pv 2) (pa_cons (pe_ix ix_list (pv 4) pe_int (fun _ _ => rfl)) (pa_cons pe_int pa_nil)))))))
    (pss_one (ps_ret (pe_tup (pa_cons pe_str (pa_cons (pe_tup (pa_cons pe_str (pa_cons (pe_ix ix_list (pv 2) pe_int (fun _ _ => rfl)) pa_nil))) (pa_cons (pv 5) (pa_cons (pe_call G_law_term hr rfl R_law_term.m R_law_term.k R_law_term.b .nil pass0 (pa_cons (pv 0) (pa_cons (pv 1) (pa_cons (pv 2) (pa_cons (pe_ix ix_list (pv 4) pe_int (fun _ _ => rfl)) (pa_cons pe_int pa_nil)))))) pa_nil))))))))) pss_nil)
    (pss_one (ps_ret (pe_call G_law_term hr rfl R_law_term.m R_law_term.k R_law_term.b .nil pass0 (pa_cons (pv 0) (pa_cons (pv 1) (pa_cons (pv 2) (pa_cons (pv 3) (pa_cons pe_int pa_nil))))))))), ?_⟩
  have termW : ∀ H1, But2 tp wl H H1 → GS H1 tp kd wl hF ws → Wls H1 nl xs → (tRet (tCall (spTerm 12) [] E0 (tCons (tVar 0) (tCons (tVar 1) (tCons (tVar 2) (tCons (tVar 3) (tCons (tC (.int 11)) tNil))))))) { nx := fun x H' => Q V.non H', rt := Q } [some (.ref tp), some (.ref kd), some (.ref nl), some (.int room), none, none] H1 := by
    intro H1 b1 g1 w1
    refine ⟨_, rfl, _, rfl, _, rfl, _, rfl, tp, kd, wl, nl, hF, ws, xs, room, 11, rfl, g1, w1, nnw, by omega, by omega, by omega, by decide, by decide, fun a t ls H2 ws2 b2 e2 g2 gd => ?_⟩
    exact q a t ls H2 ws2 (b1.trans b2) e2 g2 (gd.le (Nat.le_refl _) (by decide))
  refine ⟨_, rfl, sz (by show 0 ≤ 100000; decide), fun p0 hp0 => ?_⟩
  have s0 := same_new hp0 (.lst [])
  have g0 := hg.same s0
  have w0 := hw.but (but_same s0) hg.t
  refine ⟨.list (xs.map PyData.str), .list [], .lst (SqL.of w0.1) (dp_strs xs), .lst (SqL.of upd_same) .nil, shaped_strs hw.2, rfl, _, rfl, ?_⟩
  rw [eqv_nil]
  cases xs with
  | nil => exact iteF (termW _ (but2_same s0) g0 w0)
  | cons x0 xr =>
    refine iteT ⟨_, rfl, tp, 4, rfl, g0.t, by decide, by decide, fun r H1 _ _ b1 t1 => ?_⟩
    have g1 := g0.one b1 t1
    have w1 := w0.but b1 g0.t
    have B1 : But2 tp wl H H1 := (but2_same s0).trans b1.two
    refine ⟨_, _, rfl, rfl, _, rfl, ?_⟩
    refine ite2 (fun c => ?_) (fun c => ?_)
    · refine ⟨_, rfl, _, rfl, _, _, rfl, rfl, tp, room - 2, 2, rfl, g1.t, by decide, by omega, by omega, fun sh ss H4 b4 t4 hsh h4 hsl4 hs1 hsum => ?_⟩
      obtain ⟨y0, y1, rfl⟩ := sum2 (xs := ss) (by omega)
      have hx0 := hs1 y0 List.mem_cons_self
      have hx1 := hs1 y1 (List.mem_cons_of_mem _ List.mem_cons_self)
      have esum : y0 + y1 ≤ room - 2 := by
        have e : [y0, y1].sum = y0 + (y1 + 0) := rfl
        omega
      have g4 := g1.one b4 t4
      have w4 := w1.but b4 g1.t
      obtain ⟨nht, nhw⟩ := g1.new hsh
      refine ⟨_, rfl, _, rfl, _, rfl, _, rfl, sh, _, _, _, rfl, rfl, SqL.of h4, at0, tp, kd, wl, nl, hF, ws, x0 :: xr, y0, 10, rfl, g4, w4, nnw, by omega, by omega, by omega, by decide, by decide, fun a5 t5 ls5 H5 ws5 b5 e5 g5 gd5 => ?_⟩
      have w5 := w4.two b5 g4 nnw
      have h5 := b5 _ _ nht nhw h4
      refine ⟨_, rfl, nl, _, _, _, rfl, rfl, SqL.of w5.1, at0, sz (by show 2 ≤ 100000; decide), fun p6 hp6 => ?_⟩
      have s6 := same_new hp6 (.tup [.str "name", .str x0])
      have g6 := g5.same s6
      have w6 := w5.but (but_same s6) g5.t
      refine ⟨_, rfl, _, rfl, _, rfl, _, rfl, _, rfl, sh, _, _, _, rfl, rfl, SqL.of (s6 _ _ h5), at1, tp, kd, wl, nl, hF, ws5, x0 :: xr, y1, 10, rfl, g6, w6, nnw, by omega, by omega, by omega, by decide, by decide, fun a8 t8 ls8 H8 ws8 b8 e8 g8 gd8 => ?_⟩
      refine ⟨sz (by show 4 ≤ 100000; decide), fun p9 hp9 => ?_⟩
      have s9 := same_new hp9 (.tup [.str "if", .ref p6, .ref a5, .ref a8])
      have tk68 := (g6.tk b8).trans (tk_same s9)
      have tk59 := (tk_same s6).trans tk68
      have l6 : Lay _ p6 (.nam x0) [] := ⟨rfl, tk68 _ _ upd_same⟩
      have gl := gd_nam (hd := hF) (xs := x0 :: xr) l6 (hw.2 x0 List.mem_cons_self) List.mem_cons_self
      refine q p9 (mkL .iff [mkL (.nam x0) [], t5, t8]) (ls5 ++ ls8) _ ws8 (B1.trans (b4.two.trans (b5.trans ((but2_same s6).trans (b8.trans (but2_same s9)))))) (by rw [e5, e8]; simp) (g8.same s9) ⟨?_, ?_, ?_, ?_, ?_, ?_⟩
      · exact at_mkL (vs := [.ref p6, .ref a5, .ref a8]) ⟨rfl, upd_same⟩ ⟨⟨p6, rfl, gl.at_⟩, ⟨a5, rfl, gd5.at_.tk tk59⟩, ⟨a8, rfl, gd8.at_.mono s9⟩, trivial⟩
      · refine ok_mkL trivial fun u hu => ?_
        rcases List.mem_cons.mp hu with z | z
        · rw [z]
          exact gl.ok
        · rcases List.mem_cons.mp z with z | z
          · rw [z]
            exact gd5.ok
          · rw [List.mem_singleton.mp z]
            exact gd8.ok
      · have c5 := gd5.cn
        have c8 := gd8.cn
        have c6 := gl.cn
        rw [cnt_mkL]
        show 1 + (cnt (mkL (.nam x0) []) + (cnt t5 + (cnt t8 + 0))) ≤ _
        omega
      · refine ht_mkL (n := 12) fun u hu => ?_
        rcases List.mem_cons.mp hu with z | z
        · rw [z]
          exact gl.dp.le (by decide)
        · rcases List.mem_cons.mp z with z | z
          · rw [z]
            exact gd5.dp.le (by decide)
          · rw [List.mem_singleton.mp z]
            exact gd8.dp.le (by decide)
      · refine sc_mkL trivial fun i u hi => ?_
        match i, hi with
        | 0, hi =>
          cases (Option.some.inj hi)
          exact gl.sc
        | 1, hi =>
          cases (Option.some.inj hi)
          exact gd5.sc
        | 2, hi =>
          cases (Option.some.inj hi)
          exact gd8.sc
        | i + 3, hi => simp at hi
      · rw [lt_mkL, letsL_cons, letsL_cons, letsL_cons, gl.lt, gd5.lt, gd8.lt]
        show [] ++ ([] ++ (ls5 ++ (ls8 ++ []))) = _
        rw [List.append_nil]
        rfl
    · exact termW _ B1 g1 w1

/-! ### _law_book -/
/-- a book that is good -/
structure GdE (hF : Str → Option Nat) (e : Er) : Prop where
  w : isW e.1 = true
  ws : ∀ x ∈ e.2.1, isW x = true
  n4 : e.2.1.length ≤ 4
  ok : okT e.2.2
  cn : cnt e.2.2 ≤ 40
  dp : HtLe 13 e.2.2
  hf : hF e.1 = some e.2.1.length
  sc : okS hF e.2.2 e.2.1
  un : (e.2.1 ++ letsOf e.2.2).Nodup
structure GdB (es : List Er) : Prop where
  len : 1 ≤ es.length ∧ es.length ≤ 6
  nd : (es.map (·.1)).Nodup
  er : ∃ hF : Str → Option Nat, (∀ e ∈ es, GdE hF e) ∧ ∀ f n, hF f = some n → f ∈ es.map (·.1)
def hFof (fs : List Str) (kvs : List (Key × V)) (f : Str) : Option Nat :=
  if f ∈ fs then (match valV kvs (Sum.inr f) with | some (.int n) => some n.toNat | _ => none) else none
theorem hFof_at {fs : List Str} {kvs : List (Key × V)} {f : Str} {n : Int} (h : f ∈ fs) (e : valV kvs (Sum.inr f) = some (.int n)) : hFof fs kvs f = some n.toNat := by
  unfold hFof
  rw [if_pos h, e]
theorem hFof_in {fs : List Str} {kvs : List (Key × V)} {f : Str} {n : Nat} (h : hFof fs kvs f = some n) : f ∈ fs := by
  unfold hFof at h
  by_cases c : f ∈ fs
  · exact c
  · rw [if_neg c] at h
    cases h
def spBook (K : PySem.W.Frag) : Sp := fun vs H Q _ => ∃ (sc : Addr) (ns : List Int) (start : Int), vs = [.ref sc, .int start] ∧ SqL K H sc (ns.map V.int) ∧ 0 ≤ start ∧ start ≤ 100 ∧ ∀ p es us H', Same H H' → BkAt H' es us p → GdB es → Q (.ref p) H'
abbrev s_law_book : Stmt := top 41
theorem scLbook : FnScope ["script", "start", "head", "errands", "heads", "f", "room", "found", "k", "tape", "words", "names", "known"] ["script", "start"] (defScope s_law_book) := ⟨rfl, rfl, rfl, by decide +kernel, rfl, by decide +kernel, by decide +kernel⟩
theorem merge_kn (el hd wl : Addr) : mergeK [] (knD el hd wl) = knD el hd wl := by
  have e1 : ¬ ((Sum.inr "errands" : Key) = (Sum.inr "heads" : Key)) := by decide +kernel
  have e2 : ¬ ((Sum.inr "errands" : Key) = (Sum.inr "words" : Key)) := by decide +kernel
  have e3 : ¬ ((Sum.inr "heads" : Key) = (Sum.inr "words" : Key)) := by decide +kernel
  unfold mergeK knD
  simp [putK, e1, e2, e3]
theorem cut_to {xs : List V} {i : Int} (h0 : 0 ≤ i) (h : i.toNat ≤ xs.length) : cutV xs none (some i) = xs.take i.toNat := by
  unfold cutV
  rw [sIx_no, sIx_at h0 h, List.drop_zero, Nat.sub_zero]
theorem ok_book (T : Txt K mg) {f fg ft fw fb : Addr} {fd gd td wd bd : FuncData} (F : Fun K "_law_book" "_law_book" s_law_book f fd) (G_law_digit : FnOk P w K mg base CX0 1 fg gd ["tape", "many"] spDig) (R_law_digit : Ref K mg "_law_digit" fg gd ["tape", "many"])
    (G_law_tape : FnOk P w K mg base CX0 2 ft td ["script", "k"] (spTape K)) (R_law_tape : Ref K mg "_law_tape" ft td ["script", "k"]) (G_law_words : FnOk P w K mg base CX0 2 fw wd ["tape", "many"] spWords) (R_law_words : Ref K mg "_law_words" fw wd ["tape", "many"])
    (G_law_body : FnOk P w K mg base CX0 29 fb bd ["tape", "known", "names", "room"] spBody) (R_law_body : Ref K mg "_law_body" fb bd ["tape", "known", "names", "room"]) : FnOk P w K mg base CX0 30 f fd ["script", "start"] (spBook K) := by
  refine F.ok scLbook (fun vs H Q E h => ?_) (fun cdv A outer s H vs Q E hr h => ?_)
  · obtain ⟨sc, ns, start, rfl, _⟩ := h
    rfl
  obtain ⟨sc, ns, start, rfl, hS, hst0, hst1, q⟩ := h
  refine ⟨_, (pss_cons (ps_set (i := 2) scLbook.nd rfl (Or.inl rfl) (pe_call G_law_tape (hr.mono (by omega)) rfl R_law_tape.m R_law_tape.k R_law_tape.b .nil pass0 (pa_cons (pv 0) (pa_cons (pv 1) pa_nil))))
    (pss_cons (ps_set (i := 3) scLbook.nd rfl (Or.inl rfl) (pe_call G_law_words (hr.mono (by omega)) rfl R_law_words.m R_law_words.k R_law_words.b .nil pass0 (pa_cons (pv 2) (pa_cons (pe_ix ix_list (pe_lst (pa_cons pe_int (pa_cons pe_int (pa_cons pe_int (pa_cons pe_int (pa_cons pe_int (pa_cons pe_int pa_nil))))))) (pe_call G_law_digit (hr.mono (by omega)) rfl R_law_digit.m R_law_digit.k R_law_digit.b .nil pass0 (pa_cons (pv 2) (pa_cons pe_int pa_nil))) (fun _ _ => rfl)) pa_nil))))
    (pss_cons (ps_set (i := 4) scLbook.nd rfl (Or.inl rfl) pe_dnewK)
    (pss_cons (ps_for PassesOwn.never rfl (pi_list (pv 3)) (pg_name (i := 5) scLbook.nd rfl (Or.inl rfl)) (pss_one (ps_dput (hu_of hr) (pv 4) (pv 5) (pe_ix ix_list (pe_lst (pa_cons pe_int (pa_cons pe_int (pa_cons pe_int (pa_cons pe_int (pa_cons pe_int (pa_cons pe_int pa_nil))))))) (pe_call G_law_digit (hr.mono (by omega)) rfl R_law_digit.m R_law_digit.k R_law_digit.b .nil pass0 (pa_cons (pv 2) (pa_cons pe_int pa_nil))) (fun _ _ => rfl)) rfl)))
    (pss_cons (ps_set (i := 6) scLbook.nd rfl (Or.inl rfl) (pe_ix ix_list (pe_lst (pa_cons pe_int (pa_cons pe_int (pa_cons pe_int (pa_cons pe_int pa_nil))))) (pe_call G_law_digit (hr.mono (by omega)) rfl R_law_digit.m R_law_digit.k R_law_digit.b .nil pass0 (pa_cons (pv 2) (pa_cons pe_int pa_nil))) (fun _ _ => rfl)))
    (pss_cons (ps_set (i := 7) scLbook.nd rfl (Or.inl rfl) (pe_lst pa_nil))
    (pss_cons (ps_for PassesOwn.never rfl (pi_range1 rfl T.m_range (pa_cons (pe_callB call_len_seq (by rfl) T.m_len PySem.boot_len (pa_cons (pv 3) pa_nil)) pa_nil)) (pg_name (i := 8) scLbook.nd rfl (Or.inl rfl)) (pss_cons (ps_set (i := 9) scLbook.nd rfl (Or.inl rfl) (pe_call G_law_tape (hr.mono (by omega)) rfl R_law_tape.m R_law_tape.k R_law_tape.b .nil pass0 (pa_cons (pv 0) (pa_cons (pe_op op_add (pe_op op_add (pv 1) pe_int) (pv 8)) pa_nil))))
    (pss_cons (ps_set (i := 10) scLbook.nd rfl (Or.inl rfl) (pe_call G_law_words (hr.mono (by omega)) rfl R_law_words.m R_law_words.k R_law_words.b .nil pass0 (pa_cons (pv 9) (pa_cons pe_int pa_nil))))
    (pss_cons (ps_set (i := 11) scLbook.nd rfl (Or.inl rfl) (pe_slice sl_list (pv 10) po_none (po_some (pe_dget (hu_of hr) (pv 4) (pe_ix ix_list (pv 3) (pv 8) (fun _ _ => rfl)) (fun _ _ => rfl)))))
    (pss_cons (ps_set (i := 12) scLbook.nd rfl (Or.inl rfl) (pe_disp (pps_cons pe_str (pv 3) (pps_cons pe_str (pv 4) (pps_cons pe_str (pe_slice sl_list (pv 10) (po_some (pe_callB call_len_seq (by rfl) T.m_len PySem.boot_len (pa_cons (pv 11) pa_nil))) po_none) pps_nil))) (by rfl) (by rfl) (fun z => by cases z) (by decide)))
    (pss_one (ps_expr (pe_bm PySem.F.plainAttrs_list PySem.F.slot_list_append PySem.F.type_list_append mt_append (pv 7) (pa_cons (pe_tup (pa_cons (pe_ix ix_list (pv 3) (pv 8) (fun _ _ => rfl)) (pa_cons (pe_callTy call_tuple_of (by rfl) T.m_tuple (by decide +kernel) (pa_cons (pv 11) pa_nil)) (pa_cons (pe_call G_law_body hr rfl R_law_body.m R_law_body.k R_law_body.b .nil pass0 (pa_cons (pv 9) (pa_cons (pv 12) (pa_cons (pv 11) (pa_cons (pv 6) pa_nil))))) pa_nil)))) pa_nil)))))))))
    (pss_one (ps_ret (pe_callTy call_tuple_of (by rfl) T.m_tuple (by decide +kernel) (pa_cons (pv 7) pa_nil))))))))))), ?_⟩
  refine ⟨_, rfl, _, rfl, sc, ns, start, rfl, hS, hst0, by omega, fun hp z0 hhp => ?_⟩
  have s1 := same_new hhp (.lst [.int z0])
  have t1 : Tp (upd H hp (.lst [.int z0])) hp := ⟨z0, upd_same⟩
  -- errands
  refine ⟨_, rfl, sz (by show 6 ≤ 100000; decide), fun p2 hp2 => ?_⟩
  have s2 := same_new hp2 (.lst [.int 1, .int 2, .int 2, .int 3, .int 4, .int 6])
  have t2 := t1.same s2
  have n2 : p2 ≠ hp := (ne_of_none upd_same hp2).symm
  refine ⟨_, rfl, hp, 6, rfl, t2, by decide, by decide, fun r H3 r0 r1 b3 t3 => ?_⟩
  have hme : ∃ m : Int, atI [V.int 1, .int 2, .int 2, .int 3, .int 4, .int 6] r = some (.int m) ∧ 1 ≤ m ∧ m ≤ 6 := by
    obtain ⟨v, hv, hm⟩ := at_some (xs := [V.int 1, .int 2, .int 2, .int 3, .int 4, .int 6]) r0 r1
    simp only [List.mem_cons, List.not_mem_nil, or_false] at hm
    rcases hm with z | z | z | z | z | z <;> subst z <;> exact ⟨_, hv, by decide, by decide⟩
  obtain ⟨m, hma, hm1, hm6⟩ := hme
  refine ⟨p2, _, _, _, rfl, rfl, SqL.of (b3 _ _ n2 upd_same), hma, ?_⟩
  refine ⟨hp, m, rfl, t3, by omega, by omega, fun el fs H4 b4 t4 hel w4 hfl hnd => ?_⟩
  have sH3 : Same H H3 := fun b o h => b3 _ _ (ne_of_none h hhp) (s2 _ _ (s1 _ _ h))
  have sH4 : Same H H4 := fun b o h => b4 _ _ (ne_of_none h hhp) (sH3 _ _ h)
  -- heads
  intro hd hhd
  have s5 := same_new hhd (.dK [])
  have t5 := t4.same s5
  have w5 := w4.but (but_same s5) t4
  have hhd0 : H hd = none := by
    cases e : H hd with
    | none => rfl
    | some o =>
      rw [sH4 _ _ e] at hhd
      cases hhd
  have nhd : hd ≠ hp := by
    obtain ⟨z, hz⟩ := t4
    exact (ne_of_none hz hhd).symm
  have neh : el ≠ hd := ne_of_none w4.1 hhd
  have hlen6 : fs.length ≤ 6 := by omega
  have sH5 : Same H (upd H4 hd (.dK [])) := sH4.trans s5
  have h5d : upd H4 hd (.dK []) hd = some (.dK []) := upd_same
  generalize upd H4 hd (.dK []) = H5 at s5 t5 w5 sH5 h5d
  refine ⟨_, rfl, el, rfl, ⟨_, SqL.of w5.1⟩, for_list (K := K) (a := el) (xs := fs.map V.str) (fun i σ H' => ∃ o kvs, σ = [some (.ref sc), some (.int start), some (.ref hp), some (.ref el), some (.ref hd), o, none, none, none, none, none, none, none] ∧
    But2 hp hd H5 H' ∧ Tp H' hp ∧ H' hd = some (.dK kvs) ∧ kvs.length ≤ i ∧ ∀ f ∈ fs.take i, ∃ n : Int, valV kvs (Sum.inr f) = some (.int n) ∧ 0 ≤ n ∧ n ≤ 4) ?_ ?_ ?_ ?_⟩
  · refine ⟨none, [], rfl, But2.refl _ _ _, t5, h5d, Nat.le_refl _, fun f hf => ?_⟩
    rw [List.take_zero] at hf
    cases hf
  · rintro i σ H' _ ⟨o, kvs, rfl, b6, _⟩
    exact SqL.of (b6 _ _ (wls_tp w5.1 t5) neh w5.1)
  · rintro i x σ H6 hx ⟨o, kvs, rfl, b6, t6, h6, hkl, hkv⟩
    rw [List.getElem?_map] at hx
    obtain ⟨fn, hfn, rfl⟩ : ∃ fn, fs[i]? = some fn ∧ V.str fn = x := by
      cases e : fs[i]? with
      | none =>
        rw [e] at hx
        cases hx
      | some fn =>
        rw [e] at hx
        exact ⟨fn, rfl, Option.some.inj hx⟩
    obtain ⟨hi, hi2⟩ := List.getElem?_eq_some_iff.mp hfn
    refine ⟨sz (by show 6 ≤ 100000; decide), fun p7 hp7 => ?_⟩
    have s7 := same_new hp7 (.lst [.int 1, .int 2, .int 1, .int 0, .int 3, .int 4])
    have n7 : p7 ≠ hp := by
      obtain ⟨z, hz⟩ := t6
      exact (ne_of_none hz hp7).symm
    refine ⟨_, rfl, hp, 6, rfl, t6.same s7, by decide, by decide, fun r2 H8 r3 r4 b8 t8 => ?_⟩
    have hne : ∃ m : Int, atI [V.int 1, .int 2, .int 1, .int 0, .int 3, .int 4] r2 = some (.int m) ∧ 0 ≤ m ∧ m ≤ 4 := by
      obtain ⟨v, hv, hm⟩ := at_some (xs := [V.int 1, .int 2, .int 1, .int 0, .int 3, .int 4]) r3 r4
      simp only [List.mem_cons, List.not_mem_nil, or_false] at hm
      rcases hm with z | z | z | z | z | z <;> subst z <;> exact ⟨_, hv, by decide, by decide⟩
    obtain ⟨m2, hma2, hm20, hm24⟩ := hne
    have h8 : H8 hd = some (.dK kvs) := b8 _ _ nhd (s7 _ _ h6)
    refine ⟨p7, _, _, _, rfl, rfl, SqL.of (b8 _ _ n7 upd_same), hma2, _, rfl, _, rfl, hd, _, rfl, DPut.k (k := Sum.inr fn) h8 (Nat.lt_of_le_of_lt (m := 1000) (by omega) (by decide)), ?_⟩
    refine ⟨_, _, rfl, fun b o n1 n2 hb => ?_, ?_, upd_same, ?_, ?_⟩
    · rw [upd_ne n2]
      exact b8 _ _ n1 (s7 _ _ (b6 _ _ n1 n2 hb))
    · obtain ⟨z, hz⟩ := t8
      exact ⟨z, by rw [upd_ne nhd.symm]; exact hz⟩
    · have := length_putK kvs (Sum.inr fn) (V.int m2)
      omega
    · intro f' hf'
      rw [List.take_succ_eq_append_getElem hi, hi2] at hf'
      by_cases e : f' = fn
      · subst e
        exact ⟨m2, by rw [valV_put, if_pos rfl], hm20, hm24⟩
      · rcases List.mem_append.mp hf' with z | z
        · obtain ⟨n3, q1, q2, q3⟩ := hkv f' z
          refine ⟨n3, ?_, q2, q3⟩
          rw [valV_put, if_neg (fun y => e (Sum.inr.inj y))]
          exact q1
        · exact absurd (List.mem_singleton.mp z) e
  rintro σ H6 ⟨o5, kvs, rfl, b6, t6, h6, _, hkv⟩
  rw [List.length_map, List.take_length] at hkv
  have w6 : Wls H6 el fs := ⟨b6 _ _ (wls_tp w5.1 t5) neh w5.1, w5.2⟩
  have sH6 : Same H H6 := fun b o hb => b6 _ _ (ne_of_none hb hhp) (ne_of_none hb hhd0) (sH5 _ _ hb)
  -- room
  refine ⟨sz (by show 4 ≤ 100000; decide), fun p7 hp7 => ?_⟩
  have s7 := same_new hp7 (.lst [.int 8, .int 14, .int 24, .int 40])
  have n7 : p7 ≠ hp := by
    obtain ⟨z, hz⟩ := t6
    exact (ne_of_none hz hp7).symm
  refine ⟨_, rfl, hp, 4, rfl, t6.same s7, by decide, by decide, fun r2 H8 r3 r4 b8 t8 => ?_⟩
  have hre : ∃ m : Int, atI [V.int 8, .int 14, .int 24, .int 40] r2 = some (.int m) ∧ 8 ≤ m ∧ m ≤ 40 := by
    obtain ⟨v, hv, hm⟩ := at_some (xs := [V.int 8, .int 14, .int 24, .int 40]) r3 r4
    simp only [List.mem_cons, List.not_mem_nil, or_false] at hm
    rcases hm with z | z | z | z <;> subst z <;> exact ⟨_, hv, by decide, by decide⟩
  obtain ⟨room, hra, hr8, hr40⟩ := hre
  refine ⟨p7, _, _, _, rfl, rfl, SqL.of (b8 _ _ n7 upd_same), hra, ?_⟩
  have sH8 : Same H H8 := fun b o hb => b8 _ _ (ne_of_none hb hhp) (s7 _ _ (sH6 _ _ hb))
  have w8 : Wls H8 el fs := ⟨b8 _ _ (wls_tp w6.1 t6) (s7 _ _ w6.1), w6.2⟩
  have h8 : H8 hd = some (.dK kvs) := b8 _ _ nhd (s7 _ _ h6)
  have hS8 : SqL K H8 sc (ns.map V.int) := sH8.seq hS
  clear h6 w6 sH6 s7 b8 t8 hp7 b6 t6
  -- found
  refine ⟨sz (by show 0 ≤ 100000; decide), fun fl hflN => ?_⟩
  have s9 := same_new hflN (.lst [])
  refine ⟨_, rfl, el, _, rfl, .inl (SqL.of (s9 _ _ w8.1)), _, rfl, by omega, by rw [List.length_map]; omega, ?_⟩
  have hnl : (((fs.map V.str).length : Nat) : Int).toNat = fs.length := by
    rw [Int.toNat_natCast, List.length_map]
  refine for_range (lo := 0) (n := (((fs.map V.str).length : Nat) : Int).toNat) (fun i σ H' => ∃ o8 o9 o10 o11 o12 vs es, σ = [some (.ref sc), some (.int start), some (.ref hp), some (.ref el), some (.ref hd), o5, some (.int room), some (.ref fl), o8, o9, o10, o11, o12] ∧
    Same H8 H' ∧ H' fl = some (.lst vs) ∧ All2 (ErV H') es vs ∧ es.length = i ∧ es.map (·.1) = fs.take i ∧ ∀ e ∈ es, GdE (hFof fs kvs) e) ?_ ?_ ?_
  · exact ⟨_, _, _, _, _, [], [], rfl, s9, upd_same, trivial, rfl, rfl, fun _ z => nomatch z⟩
  · rintro i σ H' hi ⟨o8, o9, o10, o11, o12, vs, es, rfl, sA, hfA, kA, hel2, hnm, hgd⟩
    rw [hnl] at hi
    have hfi : fs[i]? = some fs[i] := List.getElem?_eq_getElem hi
    have hfm := List.getElem_mem hi
    generalize fs[i] = fn at hfi hfm
    have ei : (0 : Int) + (i : Nat) = ((i : Nat) : Int) := by omega
    have hat : atI (fs.map V.str) ((0 : Int) + (i : Nat)) = some (V.str fn) := by
      rw [ei]
      exact atI_nat (by rw [List.getElem?_map, hfi]; rfl)
    obtain ⟨nn, hnn, hn0, hn4⟩ := hkv fn hfm
    -- tape
    refine ⟨_, rfl, _, rfl, _, _, rfl, rfl, _, rfl, _, _, rfl, rfl, sc, ns, _, rfl, sA.seq hS8, by omega, by omega, fun tp z htp => ?_⟩
    have sB := same_new htp (.lst [.int z])
    have tB : Tp (upd H' tp (.lst [.int z])) tp := ⟨z, upd_same⟩
    refine ⟨_, rfl, tp, 16, rfl, tB, by decide, by decide, fun wp ws HC bC tC hwp wC hwl hwnd => ?_⟩
    have hwl16 : ws.length = 16 := by omega
    have sC : Same H' HC := fun b o hb => bC _ _ (ne_of_none hb htp) (sB _ _ hb)
    have wCe : Wls HC el fs := ⟨sC _ _ (sA _ _ w8.1), w8.2⟩
    have hCd : HC hd = some (.dK kvs) := sC _ _ (sA _ _ h8)
    -- names
    refine ⟨_, rfl, _, rfl, _, rfl, _, rfl, el, _, _, _, rfl, rfl, SqL.of wCe.1, hat, hd, _, rfl, get_of hCd hnn, _, rfl, wp, _, rfl, SqL.of wC.1, fun np hnp => ?_⟩
    have eN : cutV (ws.map V.str) none (some nn) = (ws.take nn.toNat).map V.str := by
      rw [cut_to hn0 (by rw [List.length_map]; omega), List.map_take]
    rw [eN]
    have sD := same_new hnp (.lst ((ws.take nn.toNat).map V.str))
    have hD : upd HC np (.lst ((ws.take nn.toNat).map V.str)) np = some (.lst ((ws.take nn.toNat).map V.str)) := upd_same
    have tD := tC.same sD
    generalize upd HC np (.lst ((ws.take nn.toNat).map V.str)) = HD at sD hD tD
    -- known
    intro kd hkd
    have sE := same_new hkd (.dK [])
    refine ⟨_, rfl, _, rfl, _, rfl, _, rfl, np, _, rfl, .inl (SqL.of (sE _ _ hD)), _, rfl, wp, _, rfl, SqL.of (sE _ _ (sD _ _ wC.1)), fun wl hwlN => ?_⟩
    have eW : cutV (ws.map V.str) (some ((((ws.take nn.toNat).map V.str).length : Nat) : Int)) none = (ws.drop nn.toNat).map V.str := by
      have e1 : ((ws.take nn.toNat).map V.str).length = nn.toNat := by
        rw [List.length_map, List.length_take]
        omega
      rw [e1, cut_from (by omega) (by rw [List.length_map]; omega), List.map_drop, Int.toNat_natCast]
    rw [eW]
    have sF := same_new hwlN (.lst ((ws.drop nn.toNat).map V.str))
    have hkF : upd (upd HD kd (.dK [])) wl (.lst ((ws.drop nn.toNat).map V.str)) kd = some (.dK []) := sF _ _ upd_same
    have hwF : upd (upd HD kd (.dK [])) wl (.lst ((ws.drop nn.toNat).map V.str)) wl = some (.lst ((ws.drop nn.toNat).map V.str)) := upd_same
    have nwk : wl ≠ kd := (ne_of_none upd_same hwlN).symm
    have nwn : np ≠ wl := ne_of_none (sE _ _ hD) hwlN
    have sDF := sE.trans sF
    have nwe : el ≠ wl := ne_of_none (sE _ _ (sD _ _ wCe.1)) hwlN
    have hwl0 : H' wl = none := by
      cases e : H' wl with
      | none => rfl
      | some o =>
        rw [sE _ _ (sD _ _ (sC _ _ e))] at hwlN
        cases hwlN
    generalize upd (upd HD kd (.dK [])) wl (.lst ((ws.drop nn.toNat).map V.str)) = HF at sDF hkF hwF
    refine ⟨hkF, knD el hd wl, rfl, by show 3 ≤ 15; decide, ?_⟩
    rw [merge_kn]
    have sG : Same HD (upd HF kd (.dK (knD el hd wl))) := fun b o hb => by
      have nb : b ≠ kd := ne_of_none hb hkd
      rw [upd_ne nb]
      exact sDF _ _ hb
    have hkG : upd HF kd (.dK (knD el hd wl)) kd = some (.dK (knD el hd wl)) := upd_same
    have hwG : upd HF kd (.dK (knD el hd wl)) wl = some (.lst ((ws.drop nn.toNat).map V.str)) := by
      rw [upd_ne nwk]
      exact hwF
    generalize upd HF kd (.dK (knD el hd wl)) = HG at sG hkG hwG
    have sCG := sD.trans sG
    have gG : GS HG tp kd wl (hFof fs kvs) (ws.drop nn.toNat) := ⟨tC.same sCG, ⟨hwG, fun x hx => wC.2 x (List.mem_of_mem_drop hx)⟩, by rw [List.length_drop]; omega,
      el, hd, fs, kvs, hkG, nwe, ⟨sCG _ _ wCe.1, wCe.2⟩, by omega, by omega, sCG _ _ hCd, fun f hf => let ⟨n, e1, e2, e3⟩ := hkv f hf; ⟨n, e1, e2, e3, hFof_at hf e1⟩⟩
    have wG : Wls HG np (ws.take nn.toNat) := ⟨sG _ _ hD, fun x hx => wC.2 x (List.mem_of_mem_take hx)⟩
    -- the errand
    refine ⟨_, rfl, .inl ⟨rfl, _, SqL.of (sCG _ _ (sC _ _ hfA))⟩, _, rfl, _, rfl, el, _, _, _, rfl, rfl, SqL.of (sCG _ _ wCe.1), hat, _, rfl, np, _, rfl, .inl ⟨SqL.of wG.1, fun tl htl => ?_⟩⟩
    have sH := same_new htl (.tup ((ws.take nn.toNat).map V.str))
    refine ⟨_, rfl, _, rfl, _, rfl, _, rfl, tp, kd, wl, np, hFof fs kvs, ws.drop nn.toNat, ws.take nn.toNat, room, rfl, gG.same sH, wG.but (but_same sH) gG.t, nwn, by rw [List.length_take]; omega, hr8, hr40, fun a t ls HI wsI bI eI gI gdI => ?_⟩
    refine ⟨sz (by show 3 ≤ 100000; decide), fun ep hep => ?_⟩
    have sJ := same_new hep (.tup [.str fn, .ref tl, .ref a])
    have tkI : TK (upd HG tl (.tup ((ws.take nn.toNat).map V.str))) HI := (gG.same sH).tk bI
    have sX : Same H' HI := fun b o hb => bI _ _ (ne_of_none hb htp) (ne_of_none hb hwl0) (sH _ _ (sCG _ _ (sC _ _ hb)))
    have sXJ := sX.trans sJ
    have hfJ := sXJ _ _ hfA
    have hvl := kA.len
    refine ⟨fl, _, _, rfl, rfl, hfJ, Nat.lt_of_le_of_lt (m := 1000) (by omega) (by decide), ?_⟩
    have tkJ := (tk_same sXJ).trans (tk_put (o := .lst (vs ++ [.ref ep])) hfJ)
    have tkP := tk_put (o := .lst (vs ++ [.ref ep])) hfJ
    refine ⟨_, _, _, _, _, vs ++ [.ref ep], es ++ [(fn, ws.take nn.toNat, t)], rfl, same_mut (sA.trans sXJ) hflN, upd_same, ?_, ?_, ?_, ?_⟩
    · refine (kA.imp fun _ _ z => z.tk tkJ).app ⟨⟨ep, tl, a, rfl, tkP _ _ upd_same, tkP _ _ (sJ _ _ (tkI _ _ upd_same)), (gdI.at_.mono sJ).tk tkP⟩, trivial⟩
    · rw [List.length_append, hel2]
      rfl
    · rw [List.map_append, hnm, List.take_succ_eq_append_getElem hi]
      have e : fs[i] = fn := by
        rw [List.getElem?_eq_getElem hi] at hfi
        exact Option.some.inj hfi
      rw [e]
      rfl
    · intro e he
      rcases List.mem_append.mp he with z | z
      · exact hgd e z
      · rw [List.mem_singleton.mp z]
        have etk : (ws.take nn.toNat).length = nn.toNat := by
          rw [List.length_take]
          omega
        refine ⟨w8.2 fn hfm, fun x hx => wC.2 x (List.mem_of_mem_take hx), by show (ws.take nn.toNat).length ≤ 4; omega, gdI.ok, ?_, gdI.dp, ?_, gdI.sc, ?_⟩
        · have := gdI.cn
          show cnt t ≤ 40
          omega
        · show hFof fs kvs fn = some (ws.take nn.toNat).length
          rw [etk]
          exact hFof_at hfm hnn
        · show (ws.take nn.toNat ++ letsOf t).Nodup
          rw [gdI.lt]
          have e9 : ws = ws.take nn.toNat ++ (wsI ++ ls.reverse) := by rw [← eI, List.take_append_drop]
          rw [e9] at hwnd
          rw [List.nodup_append] at hwnd ⊢
          obtain ⟨n1, n2, n3⟩ := hwnd
          refine ⟨n1, ?_, fun a ha b hb => n3 a ha b (List.mem_append_right _ (List.mem_reverse.mpr hb))⟩
          have n4 := (List.nodup_append.mp n2).2.1
          exact (List.reverse_perm ls).nodup_iff.mp n4
  · rintro σ H' ⟨o8, o9, o10, o11, o12, vs, es, rfl, sA, hfA, kA, hel2, hnm, hgd⟩
    rw [hnl] at hel2 hnm
    rw [List.take_length] at hnm
    refine ⟨_, rfl, fl, _, rfl, .inl ⟨SqL.of hfA, fun p hp9 => ?_⟩⟩
    have sK := same_new hp9 (.tup vs)
    refine q p es vs _ ((sH8.trans sA).trans sK) ⟨upd_same, kA.imp fun _ _ z => z.tk (tk_same sK)⟩ ⟨by omega, by rw [hnm]; exact hnd, _, hgd, fun f n hf => by rw [hnm]; exact hFof_in hf⟩
end
end KB

namespace KB
open PySem L2 HT

/-! ### del xs[a:] -/
theorem filt_take {α : Type} (sel : Nat → Bool) (a : Nat) : ∀ (xs : List α) (j : Nat), (∀ k, j ≤ k → k < j + xs.length → sel k = decide (a ≤ k)) →
    (xs.zipIdx j).filterMap (fun p => if sel p.2 = true then none else some p.1) = xs.take (a - j)
  | [], _, _ => by simp
  | x :: r, j, h => by
    have h0 := h j (Nat.le_refl _) (by rw [List.length_cons]; omega)
    have ih := filt_take sel a r (j + 1) fun k h1 h2 => h k (by omega) (by rw [List.length_cons]; omega)
    rw [List.zipIdx_cons, List.filterMap_cons]
    by_cases c : a ≤ j
    · rw [decide_eq_true c] at h0
      simp only [h0, if_true]
      rw [ih]
      have e1 : a - j = 0 := by omega
      have e2 : a - (j + 1) = 0 := by omega
      rw [e1, e2]
      rfl
    · rw [decide_eq_false c] at h0
      simp only [h0]
      rw [ih]
      have e1 : a - j = (a - (j + 1)) + 1 := by omega
      rw [e1]
      rfl
theorem bounds_from {a n : Nat} (h : a ≤ n) : sliceBounds (some (a : Int)) none none n = ((a : Int), (n : Int), 1) := by
  simp only [sliceBounds, Option.getD_none]
  have h1 : ¬ ((a : Int) < 0) := by omega
  simp only [h1, if_false, show (1 : Int) > 0 by decide, if_true]
  congr 1
  omega
section
variable {prog : Program} {w : World} {A : Around} {E : Value → Shared → Prop} {s : Shared}
theorem delItem_from {l sl : Addr} {items : Array Value} {n : Nat} {vl : Value} {a : Nat} {Q : Unit → Shared → Prop}
    (e : s.heap.get? l = some { cls := .type "list", data := .seq items n }) (hs : s.heap.IsSliceOf sl vl .none .none) (pl : IsPart vl (some (a : Int))) (ha : a ≤ items.size)
    (hsz : items.size ≤ sizeLine) (h : ∀ g : Array Value → Array Value, g items = (items.toList.take a).toArray → Q () { s with heap := s.heap.update l (Obj.mapSeq g) }) :
    wpAny (model prog w) A (delItem (.ref l) (.ref sl)) Q E s := by
  have hl : s.heap.IsList l items := PySem.IsL.isList e
  obtain ⟨os, hos, hcs, hds⟩ := id hs
  have hTs : s.TypeIs (.ref sl) "slice" := ⟨os, hos, hcs⟩
  have hstep : ¬ ((rawPart none == rawInt 0) = true) := Bool.false_ne_true
  refine wpAny_delItem_slot hl.typeIs (by decide) F.slot_list_delitem (wpAny_call_entry F.slot_list_delitem hl.typeIs F.entry_list_delitem ?_ (F.args_list_delitem_2 _ _))
  show wpAny _ _ (Builtin.List.listSubscript? (.ref sl) >>= _) _ _ s
  refine wpAny_bind ?_
  unfold Builtin.List.listSubscript?
  refine wpAny_bind (wpAny_specialOf hTs slice_no_index ?_)
  simp only [Option.isNone_none, if_true]
  refine wpAny_pure ?_
  show wpAny _ _ (typeOf (.ref sl) >>= _) _ _ s
  refine wpAny_bind (wpAny_typeOf hTs ?_)
  first
    | rw [if_neg (by decide)]
    | refine PySem.W.KFB.if_not (by decide) ?_
  rw [listSliceParts_eq]
  refine wpAny_bind (wpAny_bind (wpAny_field hos hds (x := .none) rfl (wpAny_bind (wpAny_listPart .none ?_))))
  rw [if_neg hstep]
  refine wpAny_bind (wpAny_field hos hds (x := vl) rfl (wpAny_bind (wpAny_listPart pl ?_)))
  refine wpAny_bind (wpAny_field hos hds (x := .none) rfl (wpAny_bind (wpAny_listPart .none (wpAny_pure ?_))))
  unfold Builtin.List.listItems
  refine wpAny_bind (wpAny_bind (wpAny_seqItems e rfl (wpAny_pure ?_)))
  refine wpAny_bind (wpAny_of_eq ((sliceIndices_raw (some (a : Int)) none none items.size (by simp)).trans (congrArg (pure : Int × Int × Int → Sem (Int × Int × Int)) (bounds_from ha))) ?_)
  refine wpAny_bind (wpAny_rule ?_)
  show wpAny _ _ (updateSeq l _ >>= _) _ _ s
  have hsel : ∀ (sel : Nat → Bool), (∀ k : Nat, sel k = (((a : Int) ≤ (k : Int)) && ((k : Int) < (items.size : Int)) && (((k : Int) - (a : Int)) % 1 == 0))) →
      (List.filterMap (fun p => if sel p.2 = true then none else some p.1) items.toList.zipIdx).toArray = (items.toList.take a).toArray := by
    intro sel hk
    congr 1
    refine filt_take sel a items.toList 0 fun k _ h2 => ?_
    rw [hk k]
    have h3 : (k : Int) < (items.size : Int) := by
      rw [Array.length_toList] at h2
      omega
    have h4 : (((k : Int) - (a : Int)) % 1 == 0) = true := by
      rw [Int.emod_one]
      rfl
    rw [h4, decide_eq_true h3, Bool.and_true, Bool.and_true]
    by_cases c : a ≤ k
    · rw [decide_eq_true c, decide_eq_true (by omega)]
    · rw [decide_eq_false c, decide_eq_false (by omega)]
  refine wpAny_bind (wpAny_updateSeq (hz := hsz) (_hz' := ?sz) e rfl ?_)
  case sz =>
    refine Nat.le_trans (Nat.le_of_eq (congrArg Array.size (hsel _ fun k => rfl))) ?_
    rw [List.size_toArray, List.length_take]
    omega
  refine wpAny_bind (wpAny_letGo ?_)
  exact wpAny_pure ⟨.none, rfl, h _ (hsel _ fun k => rfl)⟩
end
section
variable {X : Cx} {pos : Pos}
/-- del xs[a:] -/
def tDelFrom (to ti : TE) : TS := fun D σ H => to σ H fun x H1 => tPart ti σ H1 fun o H2 => ∃ (l : Addr) (xs : List V) (a : Nat), x = .ref l ∧ o = some (a : Int) ∧ H2 l = some (.lst xs) ∧ a ≤ xs.length ∧ D.nx σ (upd H2 l (.lst (xs.take a)))
theorem ps_delFrom {o lo : Expr} {to ti : TE} {spos tpos : Pos} (ho : PE X o to) (hi : PE X lo ti) : PS X (.Delete [.Subscript o (.Slice (some lo) none none spos) tpos] pos) (tDelFrom to ti) := by
  refine ⟨fun pins s σ H D I h => ?_⟩
  refine wpAny_Delete (wpAny_deleteEach_cons (wpAny_delete_Subscript (thn (ho.run pins s σ H _ I h) fun u s1 ⟨x, H1, I1, rx, q1⟩ => ?_)))
  refine wpAny_Slice (thn ((po_some hi).run pins s1 σ H1 _ I1 q1) fun vl s2 ⟨l', H2, I2, pl, q2⟩ => thn (po_none.run pins s2 σ H2 (fun o H3 => o = none ∧ H3 = H2) I2 ⟨rfl, rfl⟩) fun vu s3 ⟨u', H3, I3, pu, eu, eH⟩ => ?_)
  subst eu eH
  rw [evalPart_none]
  refine wpAny_pure ?_
  obtain ⟨l, xs, a, ex, eo, hH, ha, q⟩ := q2
  subst ex eo
  cases (show u = Value.ref l from rx)
  have hvu : vu = Value.none := by
    cases pu
    rfl
  subst hvu
  have I4 : Inv X pins σ H3 { s3 with heap := s3.heap.push { cls := .type "slice", data := .fields #[vl, .none, .none] } } := I3.kept (t' := s3.toks) fun b ob q => Heap.get?_push_of_some _ q
  obtain ⟨z, its, n, r, hl, e⟩ := I4.lstM hH
  refine delItem_from (a := a) e (Heap.IsSliceOf.new ..) pl (by rw [List.size_toArray, ← hl]; exact ha) (by rw [List.size_toArray, ← hl]; exact z) fun g hg => ?_
  refine wpAny_deleteEach_nil ⟨σ, _, I4.lset (its' := its.take a) (t' := s3.toks) hH e hg (r.take a) ?_, q⟩
  rw [List.length_take]
  omega
end
end KB

namespace KB
open PySem L2 HT
open PySem.Sem (wp)
open RZ (nextOf_tuple_item nextOf_tuple_end)

/-! ### dict(zip(xs, ys)) of two tuples: the pair that was given out stands still -/
section
variable {prog : Program} {w : World} {A : Around} {E : Value → Shared → Prop} {s : Shared}
structure ZT (h : Heap) (z TI i1 i2 l1 l2 : Addr) (xs ys : Array Value) (k : Nat) : Prop where
  pr : IsPair h TI (.ref i1) (.ref i2)
  a1 : h.IsTupleIter i1 l1 k
  a2 : h.IsTupleIter i2 l2 k
  t1 : h.IsTuple l1 xs
  t2 : h.IsTuple l2 ys
theorem ZT.at {h h' : Heap} {z TI i1 i2 l1 l2 : Addr} {xs ys : Array Value} {k : Nat} (x : ZT h z TI i1 i2 l1 l2 xs ys k) (e : ∀ c, c = TI ∨ c = i1 ∨ c = i2 ∨ c = l1 ∨ c = l2 → ∀ o, h.get? c = some o → h'.get? c = some o) :
    ZT h' z TI i1 i2 l1 l2 xs ys k :=
  ⟨e _ (by simp) _ x.pr, x.a1.at fun o => e _ (by simp) o, x.a2.at fun o => e _ (by simp) o, x.t1.at fun o => e _ (by simp) o, x.t2.at fun o => e _ (by simp) o⟩
/-- up to the first of the two steps inside zip's next, its pair still out -/
theorem zt_go {z TI TO T i1 i2 l1 l2 : Addr} {f : Bool} {oT : Obj} {k : Nat} {xs ys : Array Value} {Q : Fin → Shared → Prop}
    (hz : IsZipHeld s.heap z TI TO T f) (hT : s.heap.get? T = some oT) (st : ZT s.heap z TI i1 i2 l1 l2 xs ys k)
    (h : ∀ h1, IsZipHeld h1 z TI TO T true → Heap.SameBut z s.heap h1 →
      wpAny (model prog w) A (Builtin.SmallTypes.nextOf (.ref i1)) (fun x s2 => wpAny (model prog w) A (Builtin.SmallTypes.nextOf (.ref i2)) (fun y s3 => wpAny (model prog w) A (newTuple [x, y]) (fun v s4 => Q (.done (.ret v)) s4) E s3) E s2) E { s with heap := h1 }) :
    wpAny (model prog w) A (Builtin.«zip.__next__» ⟨[.ref z], []⟩) Q E s := by
  show wpAny _ _ (field (.ref z) 2 >>= _) _ _ _
  refine wpAny_bind (wpAny_field hz rfl (x := .bool false) rfl ?_)
  show wpAny _ _ (field (.ref z) 3 >>= _) _ _ _
  refine wpAny_bind (wpAny_field hz rfl (x := .ref TI) rfl (wpAny_bind (wpAny_seqItems st.pr rfl ?_)))
  show wpAny _ _ (Builtin.SmallTypes.ownedTupleIsFree (.ref z) >>= _) _ _ _
  refine wpAny_bind (wpAny_tupleHeld_zip hz hT fun h1 z1 b1 => ?_)
  simp only [Bool.false_eq_true, if_false]
  refine wpAny_bind ?_
  rw [← Array.forIn_toList]
  simp only [List.forIn_cons, List.forIn_nil]
  refine wpAny_bind (wpAny_bind (wpAny_holding ?_))
  show wpAny _ _ (Builtin.SmallTypes.nextOf (.ref i1) >>= _) _ _ _
  refine wpAny_bind (thn (h h1 z1 b1) fun x s2 q => ?_)
  refine wpAny_pure ?_
  refine wpAny_pure ?_
  refine wpAny_bind (wpAny_bind (wpAny_holding ?_))
  show wpAny _ _ (Builtin.SmallTypes.nextOf (.ref i2) >>= _) _ _ _
  refine wpAny_bind (thn q fun y s3 q => ?_)
  refine wpAny_pure ?_
  refine wpAny_pure ?_
  refine wpAny_pure ?_
  show wpAny _ _ (newTuple [x, y] >>= _) _ _ _
  exact wpAny_bind (thn q fun v s4 q => wpAny_pure q)
theorem zt_item {z TI TO T i1 i2 l1 l2 : Addr} {f : Bool} {oT : Obj} {k : Nat} {xs ys : Array Value} {x y : Value} {Q : Option Value → Shared → Prop} (D : ZipApart z TI TO i1 i2 l1 l2)
    (hz : IsZipHeld s.heap z TI TO T f) (hT : s.heap.get? T = some oT) (st : ZT s.heap z TI i1 i2 l1 l2 xs ys k) (hx : xs[k]? = some x) (hy : ys[k]? = some y)
    (hQ : ∀ h', IsZipHeld h' z TI TO T true → ZT h' z TI i1 i2 l1 l2 xs ys (k + 1) → IsPair h' s.heap.objs.size x y →
      (∀ c o, c ≠ z → c ≠ i1 → c ≠ i2 → s.heap.get? c = some o → h'.get? c = some o) → Q (some (.ref s.heap.objs.size)) { s with heap := h' }) :
    wpAny (model prog w) A (pyNext (.ref z)) Q E s := by
  have hTy : s.TypeIs (.ref z) "zip" := ⟨_, hz, rfl⟩
  unfold pyNext
  refine wpAny_bind (wpAny_attempt (wpAny_callSpecial?_slot (name := Str.ofString "__next__") hTy F.slot_zip_next
    (wpAny_call_entry F.slot_zip_next hTy F.entry_zip_next (zt_go hz hT st fun h1 z1 b1 => ?_) (F.args_zip_next_1 _))))
  refine nextOf_tuple_item (s := { s with heap := h1 }) (st.a1.at fun o e => (b1.extBut _ _ D.i1z e)) (st.t1.at fun o e => b1.extBut _ _ D.l1z e) hx fun h2 a1 b2 => ?_
  refine nextOf_tuple_item (s := { s with heap := h2 }) (st.a2.at fun o e => b2.extBut _ _ D.i12.symm (b1.extBut _ _ D.i2z e)) (st.t2.at fun o e => b2.extBut _ _ D.l2i1 (b1.extBut _ _ D.l2z e)) hy fun h3 a2 b3 => ?_
  refine wpAny_newTuple ?_
  have hsz : h3.objs.size = s.heap.objs.size := by rw [b3.1, b2.1, b1.1]
  have k3 : ∀ c o, c ≠ z → c ≠ i1 → c ≠ i2 → s.heap.get? c = some o → h3.get? c = some o := fun c o c1 c2 c3 e => b3.extBut _ _ c3 (b2.extBut _ _ c2 (b1.extBut _ _ c1 e))
  have hp : IsPair (h3.push { cls := .type "tuple", data := .seq #[x, y] }) h3.objs.size x y := Heap.get?_push_size _ rfl
  refine ⟨_, rfl, wpAny_pure ?_⟩
  show Q (some (.ref h3.objs.size)) _
  rw [hsz] at hp ⊢
  exact hQ _ (Heap.get?_push_of_some _ (b3.extBut _ _ D.i2z.symm (b2.extBut _ _ D.i1z.symm z1)))
    ⟨Heap.get?_push_of_some _ (k3 _ _ D.TIz D.TIi1 D.TIi2 st.pr), a1.at fun o e => Heap.get?_push_of_some _ (b3.extBut _ _ D.i12 e), a2.at fun o e => Heap.get?_push_of_some _ e,
      st.t1.at fun o e => Heap.get?_push_of_some _ (k3 _ o D.l1z D.l1i1 D.l1i2 e), st.t2.at fun o e => Heap.get?_push_of_some _ (k3 _ o D.l2z D.l2i1 D.l2i2 e)⟩
    hp fun c o c1 c2 c3 e => Heap.get?_push_of_some _ (k3 c o c1 c2 c3 e)
theorem zt_end {z TI TO T i1 i2 l1 l2 : Addr} {f : Bool} {oT : Obj} {k : Nat} {xs ys : Array Value} {Q : Option Value → Shared → Prop} (hh : A.handled = none) (D : ZipApart z TI TO i1 i2 l1 l2)
    (hz : IsZipHeld s.heap z TI TO T f) (hT : s.heap.get? T = some oT) (st : ZT s.heap z TI i1 i2 l1 l2 xs ys k) (he : xs[k]? = none ∨ ys[k]? = none)
    (hQ : ∀ h', (∀ c o, c ≠ z → c ≠ i1 → c ≠ i2 → s.heap.get? c = some o → h'.get? c = some o) → Q none { s with heap := h' }) :
    wpAny (model prog w) A (pyNext (.ref z)) Q E s := by
  have hTy : s.TypeIs (.ref z) "zip" := ⟨_, hz, rfl⟩
  have hfin : ∀ (h' : Heap) (e : Addr), (∀ c o, c ≠ z → c ≠ i1 → c ≠ i2 → s.heap.get? c = some o → h'.get? c = some o) → (∃ o, h'.get? e = some o ∧ o.cls = .type "StopIteration") →
      wpAny (model prog w) A (isInstance (.ref e) (.type "StopIteration")) (fun b s' => b = true ∧ s' = { s with heap := h' }) E { s with heap := h' } := fun h' e _ ⟨o, ho, hc⟩ =>
    wpAny_isInstance (T := "StopIteration") (b := true) ⟨o, ho, hc⟩ isSubtype_stop ⟨rfl, rfl⟩
  unfold pyNext
  refine wpAny_bind (wpAny_attempt (wpAny_callSpecial?_slot (name := Str.ofString "__next__") hTy F.slot_zip_next
    (wpAny_call_entry F.slot_zip_next hTy F.entry_zip_next (zt_go hz hT st fun h1 z1 b1 => ?_) (F.args_zip_next_1 _))))
  cases hx : xs[k]? with
  | none =>
    refine nextOf_tuple_end (s := { s with heap := h1 }) hh (st.a1.at fun o e => (b1.extBut _ _ D.i1z e)) (st.t1.at fun o e => b1.extBut _ _ D.l1z e) hx fun h2 e b2 ho => ?_
    have kk : ∀ c o, c ≠ z → c ≠ i1 → c ≠ i2 → s.heap.get? c = some o → h2.get? c = some o := fun c o c1 c2 _ e => b2 _ _ c2 (b1.extBut _ _ c1 e)
    refine wpAny_bind (thn (hfin h2 e kk ho) fun b s' hb => ?_)
    obtain ⟨rfl, rfl⟩ := hb
    exact wpAny_pure (hQ _ kk)
  | some x =>
    have hy : ys[k]? = none := he.resolve_left (by rw [hx]; exact Option.some_ne_none _)
    refine nextOf_tuple_item (s := { s with heap := h1 }) (st.a1.at fun o e => (b1.extBut _ _ D.i1z e)) (st.t1.at fun o e => b1.extBut _ _ D.l1z e) hx fun h2 a1 b2 => ?_
    refine nextOf_tuple_end (s := { s with heap := h2 }) hh (st.a2.at fun o e => b2.extBut _ _ D.i12.symm (b1.extBut _ _ D.i2z e)) (st.t2.at fun o e => b2.extBut _ _ D.l2i1 (b1.extBut _ _ D.l2z e)) hy fun h3 e b3 ho => ?_
    have kk : ∀ c o, c ≠ z → c ≠ i1 → c ≠ i2 → s.heap.get? c = some o → h3.get? c = some o := fun c o c1 c2 c3 e => b3 _ _ c3 (b2.extBut _ _ c2 (b1.extBut _ _ c1 e))
    refine wpAny_bind (thn (hfin h3 e kk ho) fun b s' hb => ?_)
    obtain ⟨rfl, rfl⟩ := hb
    exact wpAny_pure (hQ _ kk)

/-- what is told of a zip of tuples as an argument of dict -/
theorem argZipT (z TI TO i1 i2 l1 l2 : Addr) (D : ZipApart z TI TO i1 i2 l1 l2) (xs ys : Array Value) :
    PairArg prog w "zip" z [z, TI, TO, i1, i2, l1, l2] [z, TO, i1, i2] (min xs.size ys.size) (fun i k v => xs[i]? = some k ∧ ys[i]? = some v)
      (fun h => IsZip h z TI TO .none ∧ (∃ a b, IsPair h TO a b) ∧ ZT h z TI i1 i2 l1 l2 xs ys 0) where
  type := fun s ok => ⟨_, ok.1, rfl⟩
  notDict := by decide
  keep := fun h h' ⟨hz, ⟨a, b, ho⟩, st⟩ k => ⟨k _ _ hz, ⟨a, b, k _ _ ho⟩, st.at fun c _ o e => k c o e⟩
  there := fun h ⟨hz, ⟨a, b, ho⟩, st⟩ c hc => by
    obtain ⟨p, ⟨o1, e1, _⟩, ⟨o2, e2, _⟩, ⟨o3, e3, _⟩, ⟨o4, e4, _⟩⟩ := st
    simp only [List.mem_cons, List.not_mem_nil, or_false] at hc
    rcases hc with rfl | rfl | rfl | rfl | rfl | rfl | rfl
    · exact ⟨_, hz⟩
    · exact ⟨_, p⟩
    · exact ⟨_, ho⟩
    · exact ⟨_, e1⟩
    · exact ⟨_, e2⟩
    · exact ⟨_, e3⟩
    · exact ⟨_, e4⟩
  sub := fun c hc => by
    simp only [List.mem_cons, List.not_mem_nil, or_false] at hc ⊢
    rcases hc with h | h | h | h <;> simp [h]
  noKeys := fun A s Q E hA ok h => getAttrOr_miss_zip ok.1 rfl rfl rfl zip_no_keys (by decide +kernel) hA h
  iter := fun A s d Q E hA ok hd hdf h => by
    obtain ⟨hz, ⟨a, b, ho⟩, st⟩ := ok
    simp only [List.mem_cons, List.not_mem_nil, or_false, not_or] at hdf
    obtain ⟨dz, dTI, dTO, di1, di2, dl1, dl2⟩ := hdf
    refine wpAny_pyIter_zip hz (h z [z, TO, i1, i2] (fun i h => ZT h z TI i1 i2 l1 l2 xs ys i ∧
      ((IsZip h z TI TO .none ∧ ∃ a b, IsPair h TO a b) ∨ ∃ T f oT, IsZipHeld h z TI TO T f ∧ h.get? T = some oT ∧ T ≠ z ∧ T ≠ i1 ∧ T ≠ i2 ∧ T ≠ d)) s.heap s.toks ?_
      ⟨st, .inl ⟨hz, a, b, ho⟩⟩ (fun _ _ e => e) fun c hc => .inl hc)
    refine { off := ?_, frame := ?_, item := ?_, done := ?_ }
    · intro hm
      simp only [List.mem_cons, List.not_mem_nil, or_false] at hm
      rcases hm with e | e | e | e
      · exact dz e
      · exact dTO e
      · exact di1 e
      · exact di2 e
    · rintro i h1 h2 ⟨st, hz⟩ hk
      refine ⟨st.at fun c hc o e => hk c o ?_ e, ?_⟩
      · rcases hc with rfl | rfl | rfl | rfl | rfl
        · exact Ne.symm dTI
        · exact Ne.symm di1
        · exact Ne.symm di2
        · exact Ne.symm dl1
        · exact Ne.symm dl2
      · rcases hz with ⟨hz, a, b, ho⟩ | ⟨T, f, oT, hz, hT, r1, r2, r3, r4⟩
        · exact .inl ⟨hk _ _ (Ne.symm dz) hz, a, b, hk _ _ (Ne.symm dTO) ho⟩
        · exact .inr ⟨T, f, oT, hk _ _ (Ne.symm dz) hz, hk _ _ r4 hT, r1, r2, r3, r4⟩
    · rintro i s1 Q1 E1 hi ⟨st, hz⟩ hds hQ
      have ex := Array.getElem?_eq_getElem (Nat.lt_of_lt_of_le hi (Nat.min_le_left xs.size ys.size))
      have ey := Array.getElem?_eq_getElem (Nat.lt_of_lt_of_le hi (Nat.min_le_right xs.size ys.size))
      have n1 : s1.heap.objs.size ≠ i1 := let ⟨_, e, _⟩ := st.a1; Nat.ne_of_gt (Heap.lt_size e)
      have n2 : s1.heap.objs.size ≠ i2 := let ⟨_, e, _⟩ := st.a2; Nat.ne_of_gt (Heap.lt_size e)
      rcases hz with ⟨hz, a, b, ho⟩ | ⟨T, f, oT, hz, hT, r1, r2, r3, r4⟩
      · refine RZ.pyNext_zipT_item D hz st.pr ho st.a1 st.a2 st.t1 st.t2 ex ey fun h' z1 p1 c1 c2 p2 _ hk => ?_
        exact hQ s1.heap.objs.size _ _ h' s1.toks ⟨ex, ey⟩ (.inl ⟨_, p2, rfl, _, rfl⟩)
          ⟨⟨hk _ _ D.TIz D.TITO D.TIi1 D.TIi2 st.pr, c1, c2, st.t1.at fun o e => hk _ o D.l1z D.l1TO D.l1i1 D.l1i2 e, st.t2.at fun o e => hk _ o D.l2z D.l2TO D.l2i1 D.l2i2 e⟩,
            .inr ⟨s1.heap.objs.size, false, _, z1, p2, Nat.ne_of_gt (Heap.lt_size hz), n1, n2, Nat.ne_of_gt hds⟩⟩
          fun c o hc e => hk c o (fun x => hc (by simp [x])) (fun x => hc (by simp [x])) (fun x => hc (by simp [x])) (fun x => hc (by simp [x])) e
      · refine zt_item D hz hT st ex ey fun h' z1 st1 p2 hk => ?_
        exact hQ s1.heap.objs.size _ _ h' s1.toks ⟨ex, ey⟩ (.inl ⟨_, p2, rfl, _, rfl⟩) ⟨st1, .inr ⟨T, true, oT, z1, hk _ _ r1 r2 r3 hT, r1, r2, r3, r4⟩⟩
          fun c o hc e => hk c o (fun x => hc (by simp [x])) (fun x => hc (by simp [x])) (fun x => hc (by simp [x])) e
    · rintro s1 Q1 E1 ⟨st, hz⟩ hQ
      have he : xs[min xs.size ys.size]? = none ∨ ys[min xs.size ys.size]? = none := by
        rcases Nat.le_total xs.size ys.size with h | h
        · exact .inl (Array.getElem?_eq_none (by omega))
        · exact .inr (Array.getElem?_eq_none (by omega))
      rcases hz with ⟨hz, a, b, ho⟩ | ⟨T, f, oT, hz, hT, r1, r2, r3, r4⟩
      · exact RZ.pyNext_zipT_end hA D hz st.pr ho st.a1 st.a2 st.t1 st.t2 he fun h' hk => hQ h' s1.toks fun c o hc e => hk c o (fun x => hc (by simp [x])) (fun x => hc (by simp [x])) (fun x => hc (by simp [x])) (fun x => hc (by simp [x])) e
      · exact zt_end hA D hz hT st he fun h' hk => hQ h' s1.toks fun c o hc e => hk c o (fun x => hc (by simp [x])) (fun x => hc (by simp [x])) (fun x => hc (by simp [x])) e
end
end KB

namespace KB
open PySem L2 HT
open PySem.Sem (wp)
section
variable {X : Cx}
theorem kvs_of {P : Program} {w : World} : ∀ {ks : List Key} {ys : List V} {us vs : List Value}, ks.length = ys.length → Vals (ks.map kV) us → Vals ys vs →
    ∃ prs : List (Key × Value), KV (ks.zip ys) prs ∧ prs.length = us.length ∧ us.length = vs.length ∧ ∀ (i : Nat) (k v : Value), us[i]? = some k → vs[i]? = some v → ∃ q, prs[i]? = some (q, v) ∧ keyIs q k = true
  | [], [], us, vs, _, ru, rv => by
    cases ru
    cases rv
    exact ⟨[], .nil, rfl, rfl, fun i k v e => by simp at e⟩
  | [], _ :: _, _, _, h, _, _ => by simp at h
  | _ :: _, [], _, _, h, _, _ => by simp at h
  | k :: ks, y :: ys, us, vs, h, ru, rv => by
    rw [List.map_cons] at ru
    cases ru with
    | cons r1 r2 =>
      cases rv with
      | cons p1 p2 =>
        obtain ⟨prs, a, b, c, d⟩ := kvs_of (P := P) (w := w) (by simpa using h) r2 p2
        refine ⟨(k, _) :: prs, .cons ⟨rfl, p1⟩ a, by simp [b], by simp [c], fun i k' v' e1 e2 => ?_⟩
        cases i with
        | zero =>
          simp only [List.getElem?_cons_zero, Option.some.injEq] at e1 e2
          subst e1 e2
          exact ⟨k, rfl, kV_is (P := P) (w := w) r1⟩
        | succ i => simpa using d i k' v' (by simpa using e1) (by simpa using e2)
/-- dict(zip(a, b)) of two tuples of one length, the first one of ints and texts -/
def tDictZip (K : PySem.W.Frag) (ta : TA) : TE := fun σ H Q => ta σ H fun vs H1 => ∃ (a b : Addr) (ks : List Key) (ys : List V), vs = [.ref a, .ref b] ∧ SqT K H1 a (ks.map kV) ∧ SqT K H1 b ys ∧
  ks.length = ys.length ∧ ∀ p, H1 p = none → Q (.ref p) (upd H1 p (.dK (mergeK [] (ks.zip ys))))
theorem pe_dictZip {e e2 : Expr} {ta : TA} {p p2 q pos : Pos} (hg : Gl X "dict") (hm : X.mg "dict" = none) (hg2 : Gl X "zip") (hm2 : X.mg "zip" = none) (ha : PA X [e, e2] ta) (hc : X.calm = true := by rfl)
    (hs : starEach [e, e2] X.env = (false, eval e X.env) :: starEach [e2] X.env := by rfl) (hpl : (backTo q (starEach [e2] X.env)).any (·.1) = false := by rfl) :
    PE X (.Call (.Name "dict" p) [.Call (.Name "zip" p2) [e, e2] [] q] [] pos) (tDictZip X.K ta) := by
  refine ⟨fun pins s σ H Q I h => ?_⟩
  refine wpAny_Call_Name_kw (ld_blt I hg hm PyProof.Rows.boot_dict ?_ (by decide) (by decide))
  refine PyProof.Rows.callWith_type1 (T := "dict") (e := .Call (.Name "zip" p2) [e, e2] [] q) (rest := []) (env := X.env) (Calls.spliced_cons (thn (Q := fun v s1 => wpAny (model X.prog X.w) X.A (call (.type "dict") [v]) (EP X pins σ Q) X.xe s1) ?_ fun v s1 hv => Calls.spliced_nil hv)) (by rfl) (by rfl)
  refine wpAny_Call_Name_kw (ld_blt I hg2 hm2 PyProof.Rows.boot_zip ?_ (by decide) (by decide))
  refine PyProof.Rows.callWith_type1 (thn (ha.run q pins s σ H _ I h) fun us s1 ⟨vs, H1, I1, r1, q1⟩ => ?_) hs hpl
  obtain ⟨a, b, ks, ys, ex, h1, h2, hl, q1⟩ := q1
  subst ex
  obtain ⟨ua, ub, eu, ra, rb⟩ := vals2 r1
  subst eu
  cases ra
  cases rb
  obtain ⟨its, rv, p1, z1⟩ := I1.tuple h1
  obtain ⟨its2, rv2, p2', z2⟩ := I1.tuple h2
  obtain ⟨o1, ho1, _⟩ := id p1
  obtain ⟨o2, ho2, _⟩ := id p2'
  obtain ⟨prs, kv, e1, e2', hp⟩ := kvs_of (P := X.prog) (w := X.w) hl rv rv2
  refine RZ.call_zipT (show s1.heap.IsTuple a its.toArray from p1) (show s1.heap.IsTuple b its2.toArray from p2') fun h' hz hTI hTO a1 a2 hsz hk => ?_
  have D := PySem.W.ktu_apart s1.heap.objs.size a b (Heap.lt_size ho1) (Heap.lt_size ho2)
  have P := argZipT (prog := X.prog) (w := X.w) _ _ _ _ _ a b D its.toArray its2.toArray
  have st : ZT h' (s1.heap.objs.size + 4) (s1.heap.objs.size + 2) s1.heap.objs.size (s1.heap.objs.size + 1) a b its.toArray its2.toArray 0 :=
    ⟨hTI, a1, a2, (show s1.heap.IsTuple a its.toArray from p1).at fun o e => hk _ o e, (show s1.heap.IsTuple b its2.toArray from p2').at fun o e => hk _ o e⟩
  rw [List.length_map] at z1
  have hn : its.length = ks.length := by simpa using rv.length.symm
  refine call_dict_pairs (s := { s1 with heap := h' }) (knd := mixKind X.prog X.w) (kvs := prs) P (I1.ok.hd hc) ⟨hz, ⟨_, _, hTO⟩, st⟩ ⟨by simp only [List.size_toArray]; omega, fun i key v hr => ?_⟩ (by simp only [List.size_toArray]; omega) fun h2' tk hd' k2 => ?_
  · obtain ⟨q', e3, e4⟩ := hp i key v (by simpa using hr.1) (by simpa using hr.2)
    exact ⟨q', e3, e4⟩
  · have hm' : (h'.objs.size == sysModules) = false := beq_eq_false_iff_ne.mpr (Nat.ne_of_gt (Nat.lt_of_lt_of_le I1.big (by omega)))
    have hlen : (mergeK [] (ks.zip ys)).length ≤ sizeLine := by
      refine Nat.le_trans (length_mergeK _ []) ?_
      rw [List.length_nil, Nat.zero_add, kv.length, e1, hn]
      exact z1
    have kk : ∀ c o, s1.heap.get? c = some o → h2'.get? c = some o := fun c o ec => k2 c o (fun hmem => by
      have hlt := Heap.lt_size ec
      simp only [List.mem_cons, List.not_mem_nil, or_false] at hmem
      rcases hmem with h | h | h | h
      · exact absurd (h ▸ hlt) (Nat.not_lt.mpr (Nat.le_add_right _ 4))
      · exact absurd (h ▸ hlt) (Nat.not_lt.mpr (Nat.le_add_right _ 3))
      · exact absurd (h ▸ hlt) (Nat.lt_irrefl _)
      · exact absurd (h ▸ hlt) (Nat.not_lt.mpr (Nat.le_add_right _ 1))) (hk c o ec)
    exact ⟨.ref h'.objs.size, upd H1 h'.objs.size (.dK (mergeK [] (ks.zip ys))), I1.laid (t' := tk) kk (by omega) (show ObjOk X.prog X.w _ _ _ (.dK (mergeK [] (ks.zip ys))) from ⟨hlen, hm', merged [] prs, KV.merge kv .nil, hd'⟩), rfl,
      q1 _ (I1.hok.fresh (by omega))⟩
end
end KB

namespace KB
open PySem L2 HT

/-! ### the attributes of a Running, a Step, an Asking -/
structure RV where
  (errands most trail fin deepest left asked steps got : V)
def fsR (r : RV) : List (Str × V) := [("errands", r.errands), ("most", r.most), ("trail", r.trail), ("end", r.fin), ("deepest", r.deepest), ("left", r.left), ("asked", r.asked), ("steps", r.steps), ("got", r.got)]
structure SV where
  (term asking led last begun : V)
def fsS (r : SV) : List (Str × V) := [("term", r.term), ("asking", r.asking), ("led", r.led), ("last", r.last), ("begun", r.begun)]
def fsA (w n : V) : List (Str × V) := [("words", w), ("waiting", n)]
theorem r_end (r : RV) (v : V) : putF "end" v (fsR r) = fsR { r with fin := v } := by rfl
theorem r_left (r : RV) (v : V) : putF "left" v (fsR r) = fsR { r with left := v } := by rfl
theorem r_asked (r : RV) (v : V) : putF "asked" v (fsR r) = fsR { r with asked := v } := by rfl
theorem r_deep (r : RV) (v : V) : putF "deepest" v (fsR r) = fsR { r with deepest := v } := by rfl
theorem s_beg (r : SV) (v : V) : putF "begun" v (fsS r) = fsS { r with begun := v } := by rfl
theorem l_errands (r : RV) : (fsR r).lookup ("errands" : Str) = some r.errands := by rfl
theorem l_most (r : RV) : (fsR r).lookup ("most" : Str) = some r.most := by rfl
theorem l_trail (r : RV) : (fsR r).lookup ("trail" : Str) = some r.trail := by rfl
theorem l_end (r : RV) : (fsR r).lookup ("end" : Str) = some r.fin := by rfl
theorem l_deep (r : RV) : (fsR r).lookup ("deepest" : Str) = some r.deepest := by rfl
theorem l_left (r : RV) : (fsR r).lookup ("left" : Str) = some r.left := by rfl
theorem l_asked (r : RV) : (fsR r).lookup ("asked" : Str) = some r.asked := by rfl
theorem l_steps (r : RV) : (fsR r).lookup ("steps" : Str) = some r.steps := by rfl
theorem l_got (r : RV) : (fsR r).lookup ("got" : Str) = some r.got := by rfl
theorem l_no_ask (r : RV) : (fsR r).lookup ("ask" : Str) = none := by rfl
theorem s_term (r : SV) : (fsS r).lookup ("term" : Str) = some r.term := by rfl
theorem s_asking (r : SV) : (fsS r).lookup ("asking" : Str) = some r.asking := by rfl
theorem s_led (r : SV) : (fsS r).lookup ("led" : Str) = some r.led := by rfl
theorem s_last (r : SV) : (fsS r).lookup ("last" : Str) = some r.last := by rfl
theorem s_begun (r : SV) : (fsS r).lookup ("begun" : Str) = some r.begun := by rfl
theorem a_words (w n : V) : (fsA w n).lookup ("words" : Str) = some w := by rfl
theorem a_waiting (w n : V) : (fsA w n).lookup ("waiting" : Str) = some n := by rfl
end KB

namespace KB
open PySem L2 HT

/-! ### a run as a machine of data -/
inductive Ev | ask (f : Str) (ns : List Int) | tell (z : Int)
inductive Fe | no | done (z : Int) | long
abbrev Env := Str → Option Int
structure Fr where
  t : Tm
  k : Nat
  led : Bool
  last : Bool
  begun : Bool
structure Cf where
  most : Nat
  asked : Nat
  trail : List Ev
  fin : Fe
  deepest : Int
  left : Int
  steps : List Fr
  got : List Int
  asks : List (Env × Int)
def kidsT : Tm → List Tm | .mk _ _ k => List.ofFn k
def hdT : Tm → Hd | .mk h _ _ => h
def lazyH : Hd → Bool | .lett _ | .iff => true | _ => false
def firstT (t : Tm) : List Tm := if lazyH (hdT t) = true then (kidsT t).take 1 else kidsT t
def restT (t : Tm) : List Tm := if lazyH (hdT t) = true then (kidsT t).drop 1 else []
def noT : Tm := mkL .plus []
def kid (t : Tm) (i : Nat) : Tm := ((kidsT t)[i]?).getD noT
def envOf : List Str → List Int → Env
  | x :: xs, n :: ns => fun y => if y = x then some n else envOf xs ns y
  | _, _ => fun _ => none
def envAt (c : Cf) (k : Nat) : Env := (c.asks[k]?.map (·.1)).getD fun _ => none
def waitAt (c : Cf) (k : Nat) : Int := (c.asks[k]?.map (·.2)).getD 0
def putA (as : List (Env × Int)) (k : Nat) (x : Str) (z : Int) : List (Env × Int) := as.modify k fun e => (fun y => if y = x then some z else e.1 y, e.2)
def askC (es : List Er) (c : Cf) (f : Str) (ns : List Int) (wt : Int) : Cf :=
  if c.asked = c.most then { c with fin := .long } else
  match es.find? (fun e => decide (e.1 = f)) with
  | none => c
  | some e => { c with asked := c.asked + 1, trail := c.trail ++ [.ask f ns], deepest := max c.deepest wt, asks := c.asks ++ [(envOf e.2.1 ns, wt)], steps := ⟨e.2.2, c.asks.length, true, true, false⟩ :: c.steps }
def beginC (c : Cf) (s : Fr) (r : List Fr) : Cf := { c with steps := (firstT s.t).map (fun t => ⟨t, s.k, false, false, false⟩) ++ { s with begun := true } :: r }
def leftC (c : Cf) (s : Fr) : Int := if s.led = true then c.left else c.left + 1
/-- the step s, taken off, is brought to its end -/
def finC (es : List Er) (c : Cf) (s : Fr) : Cf :=
  match hdT s.t with
  | .num z => { c with got := z :: c.got }
  | .nam x => { c with got := (envAt c s.k x).getD 0 :: c.got }
  | .plus => { c with got := Int.fmod (c.got.getD 1 0 + c.got.getD 0 0) 1000 :: c.got.drop 2 }
  | .less => { c with got := Int.fmod (c.got.getD 1 0 - c.got.getD 0 0) 1000 :: c.got.drop 2 }
  | .tell => { c with trail := c.trail ++ [.tell (c.got.getD 0 0)] }
  | .lett x => { c with asks := putA c.asks s.k x (c.got.getD 0 0), got := c.got.drop 1, steps := ⟨kid s.t 1, s.k, s.led, s.last, false⟩ :: c.steps }
  | .iff => { c with left := leftC c s, got := c.got.drop 1, steps := ⟨if c.got.getD 0 0 = 0 then kid s.t 2 else kid s.t 1, s.k, true, s.last, false⟩ :: c.steps }
  | .ask f => askC es { c with left := leftC c s, got := c.got.drop (kidsT s.t).length } f (c.got.take (kidsT s.t).length).reverse (if s.last = true then waitAt c s.k else waitAt c s.k + 1)
def stepC (es : List Er) (c : Cf) : Cf :=
  match c.steps with
  | [] => { c with fin := .done (c.got.getD 0 0), got := c.got.drop 1 }
  | s :: r => if s.begun = true then finC es { c with steps := r } s else beginC c s r

/-! ### what holds all along -/
def arH : Hd → Nat → Prop
  | .num _, n | .nam _, n => n = 0
  | .plus, n | .less, n | .lett _, n => n = 2
  | .tell, n => n = 1
  | .iff, n => n = 3
  | .ask _, n => n ≤ 4
def arT : Tm → Prop
  | .mk h n k => arH h n ∧ ∀ i, arT (k i)
theorem At.ar {H : Hp} : ∀ {t : Tm} {a : Addr}, At H t a → arT t := by
  intro t
  induction t with
  | mk h n k ih =>
    rintro a ⟨ys, l, r⟩
    refine ⟨?_, fun i => ih i (r i)⟩
    have e : (Rfs ys).length = n := by
      unfold Rfs
      rw [List.length_ofFn]
    cases h with
    | num z => exact e.symm.trans (congrArg List.length l.1)
    | nam z => exact e.symm.trans (congrArg List.length l.1)
    | ask f => exact e ▸ l.1
    | _ => exact e.symm.trans l.1
theorem kids_len {h : Hd} {n : Nat} {k : _root_.Fin n → Tm} : (kidsT (.mk h n k)).length = n := List.length_ofFn
theorem kids_get {h : Hd} {n : Nat} {k : _root_.Fin n → Tm} {i : Nat} {u : Tm} (e : (kidsT (.mk h n k))[i]? = some u) : ∃ hi : i < n, u = k ⟨i, hi⟩ := by
  have hi : i < n := by
    have := (List.getElem?_eq_some_iff.mp e).1
    rwa [kids_len] at this
  refine ⟨hi, ?_⟩
  have e' : (List.ofFn k)[i]? = some u := e
  rw [List.getElem?_ofFn, dif_pos hi] at e'
  exact (Option.some.inj e').symm
theorem ar_kid {t u : Tm} {i : Nat} (h : arT t) (e : (kidsT t)[i]? = some u) : arT u := by
  cases t with
  | mk hd n k =>
    obtain ⟨hi, rfl⟩ := kids_get e
    exact h.2 _
theorem ok_kid {t u : Tm} {i : Nat} {hd : Str → Option Nat} {xs : List Str} (h : okS hd t xs) (e : (kidsT t)[i]? = some u) : okS hd u (inn (hdT t) i xs) := by
  cases t with
  | mk h' n k =>
    obtain ⟨hi, rfl⟩ := kids_get e
    exact h.2 _
theorem kid_eq {t : Tm} {i : Nat} (h : i < (kidsT t).length) : (kidsT t)[i]? = some (kid t i) := by
  unfold kid
  rw [List.getElem?_eq_getElem h]
  rfl
theorem ar_len {t : Tm} (h : arT t) : arH (hdT t) (kidsT t).length := by
  cases t with
  | mk hd n k =>
    rw [kids_len]
    exact h.1
theorem cnt_kids (t : Tm) : cnt t = 1 + cnts (kidsT t) := by
  cases t with
  | mk hd n k => exact cnt_mk
theorem first_rest (t : Tm) : firstT t ++ restT t = kidsT t := by
  unfold firstT restT
  cases lazyH (hdT t) with
  | true => rw [if_pos rfl, if_pos rfl, List.take_append_drop]
  | false => rw [if_neg Bool.false_ne_true, if_neg Bool.false_ne_true, List.append_nil]
theorem cnt_fr (t : Tm) : cnt t = 1 + cnts (firstT t) + cnts (restT t) := by
  rw [cnt_kids, ← first_rest, cnts_app]
  omega
/-- how many numbers there must be -/
def Bal : List Fr → Nat → Prop
  | [], g => g = 1
  | s :: r, g => if s.begun = true then (firstT s.t).length ≤ g ∧ Bal r (g - (firstT s.t).length + 1) else Bal r (g + 1)
def wF (s : Fr) : Nat := if s.begun = true then 1 + 2 * cnts (restT s.t) else 2 * cnt s.t
def fU : Fe → Nat
  | .no => 1
  | _ => 0
def mu (c : Cf) : Nat := (c.most - c.asked) * 100 + (c.steps.map wF).sum + fU c.fin
structure FrOk (hd : Str → Option Nat) (c : Cf) (s : Fr) : Prop where
  k : s.k < c.asks.length
  ar : arT s.t
  sc : ∃ xs, okS hd s.t xs ∧ ∀ x ∈ xs, ∃ z, envAt c s.k x = some z
structure WfC (es : List Er) (hd : Str → Option Nat) (c : Cf) : Prop where
  go : c.fin = .no
  as_ : c.asked ≤ c.most
  bal : Bal c.steps c.got.length
  fr : ∀ s ∈ c.steps, FrOk hd c s
end KB

namespace KB
open PySem L2 HT

structure EsOk (es : List Er) (hd : Str → Option Nat) : Prop where
  er : ∀ e ∈ es, GdE hd e
  ar : ∀ e ∈ es, arT e.2.2
  dom : ∀ f n, hd f = some n → f ∈ es.map (·.1)
theorem envOf_some : ∀ {xs : List Str} {ns : List Int} {x : Str}, xs.length = ns.length → x ∈ xs → ∃ z, envOf xs ns x = some z
  | [], _, _, _, h => by cases h
  | _ :: _, [], _, h, _ => by simp at h
  | y :: ys, n :: ns, x, hl, h => by
    by_cases c : x = y
    · exact ⟨n, if_pos c⟩
    · obtain ⟨z, hz⟩ := envOf_some (xs := ys) (ns := ns) (by simpa using hl) (by
        rcases List.mem_cons.mp h with q | q
        · exact absurd q c
        · exact q)
      exact ⟨z, (if_neg c).trans hz⟩
theorem EsOk.found {es : List Er} {hd : Str → Option Nat} (E : EsOk es hd) {f : Str} {n : Nat} (h : hd f = some n) :
    ∃ e, es.find? (fun e => decide (e.1 = f)) = some e ∧ e ∈ es ∧ e.1 = f ∧ e.2.1.length = n ∧ okS hd e.2.2 e.2.1 ∧ arT e.2.2 ∧ cnt e.2.2 ≤ 40 := by
  obtain ⟨e0, h0, h1⟩ := List.mem_map.mp (E.dom f n h)
  cases hf : es.find? (fun e => decide (e.1 = f)) with
  | none => exact absurd (decide_eq_true h1) (List.find?_eq_none.mp hf e0 h0)
  | some e =>
    have hm := List.mem_of_find?_eq_some hf
    have he : e.1 = f := of_decide_eq_true (List.find?_some (p := fun e : Er => decide (e.1 = f)) hf)
    have g := E.er e hm
    refine ⟨e, rfl, hm, he, ?_, g.sc, E.ar e hm, g.cn⟩
    have := g.hf
    rw [he, h] at this
    exact (Option.some.inj this).symm
def Grow (c c' : Cf) : Prop := c.asks.length ≤ c'.asks.length ∧ ∀ k, k < c.asks.length → ∀ x z, envAt c k x = some z → ∃ z', envAt c' k x = some z'
theorem Grow.of_eq {c c' : Cf} (h : c'.asks = c.asks) : Grow c c' := by
  refine ⟨by rw [h]; exact Nat.le_refl _, fun k _ x z e => ⟨z, ?_⟩⟩
  unfold envAt at e ⊢
  rw [h]
  exact e
theorem FrOk.grow {hd : Str → Option Nat} {c c' : Cf} {s : Fr} (g : Grow c c') (h : FrOk hd c s) : FrOk hd c' s := by
  obtain ⟨xs, h1, h2⟩ := h.sc
  exact ⟨Nat.lt_of_lt_of_le h.k g.1, h.ar, xs, h1, fun x hx => let ⟨z, hz⟩ := h2 x hx; g.2 _ h.k x z hz⟩
theorem envAt_new {c : Cf} {e : Env × Int} {k : Nat} (h : k < c.asks.length) {c' : Cf} (h' : c'.asks = c.asks ++ [e]) : envAt c' k = envAt c k := by
  unfold envAt
  rw [h', List.getElem?_append_left h]
theorem envAt_last {c : Cf} {e : Env × Int} {c' : Cf} (h' : c'.asks = c.asks ++ [e]) : envAt c' c.asks.length = e.1 := by
  unfold envAt
  rw [h', List.getElem?_append_right (Nat.le_refl _), Nat.sub_self]
  rfl
theorem envAt_put {c c' : Cf} {k j : Nat} {x : Str} {z : Int} (h' : c'.asks = putA c.asks k x z) (h : j < c.asks.length) : envAt c' j = if k = j then (fun y => if y = x then some z else envAt c j y) else envAt c j := by
  unfold envAt
  rw [h']
  unfold putA
  rw [List.getElem?_modify, List.getElem?_eq_getElem h]
  by_cases e : k = j
  · subst e
    rw [if_pos rfl]
    simp
  · rw [if_neg e]
    simp [e]
theorem grow_put {c c' : Cf} {k : Nat} {x : Str} {z : Int} (h' : c'.asks = putA c.asks k x z) : Grow c c' := by
  refine ⟨by rw [h']; unfold putA; rw [List.length_modify]; exact Nat.le_refl _, fun j hj y v e => ?_⟩
  rw [envAt_put h' hj]
  by_cases q : k = j
  · rw [if_pos q]
    by_cases q2 : y = x
    · exact ⟨z, if_pos q2⟩
    · exact ⟨v, (if_neg q2).trans e⟩
  · rw [if_neg q]
    exact ⟨v, e⟩
theorem sum_first (ts : List Tm) (k : Nat) (fs : List Fr) : ((ts.map (fun t => (⟨t, k, false, false, false⟩ : Fr)) ++ fs).map wF).sum = 2 * cnts ts + (fs.map wF).sum := by
  induction ts with
  | nil => simp [cnts]
  | cons t r ih =>
    rw [List.map_cons, List.cons_append, List.map_cons, List.sum_cons, ih, cnts_cons]
    show 2 * cnt t + _ = _
    omega
theorem bal_first (ts : List Tm) (k : Nat) (fs : List Fr) : ∀ g : Nat, Bal (ts.map (fun t => (⟨t, k, false, false, false⟩ : Fr)) ++ fs) g ↔ Bal fs (g + ts.length) := by
  induction ts with
  | nil => intro g; exact Iff.rfl
  | cons t r ih =>
    intro g
    rw [List.map_cons, List.cons_append]
    show (if false = true then _ else Bal _ (g + 1)) ↔ _
    rw [if_neg Bool.false_ne_true, ih, List.length_cons, show g + 1 + r.length = g + (r.length + 1) by omega]
theorem wf_begin {es : List Er} {hd : Str → Option Nat} {c : Cf} {s : Fr} {r : List Fr} (w : WfC es hd c) (e : c.steps = s :: r) (hb : s.begun = false) : WfC es hd (beginC c s r) ∧ mu (beginC c s r) < mu c := by
  have fs := w.fr s (by rw [e]; exact List.mem_cons_self)
  have hbal := w.bal
  rw [e] at hbal
  have hbal : Bal r (c.got.length + 1) := by
    have h0 : (if s.begun = true then (firstT s.t).length ≤ c.got.length ∧ Bal r (c.got.length - (firstT s.t).length + 1) else Bal r (c.got.length + 1)) := hbal
    rw [hb, if_neg Bool.false_ne_true] at h0
    exact h0
  refine ⟨⟨w.go, w.as_, ?_, ?_⟩, ?_⟩
  · show Bal ((firstT s.t).map (fun t => (⟨t, s.k, false, false, false⟩ : Fr)) ++ { s with begun := true } :: r) c.got.length
    rw [bal_first]
    show (if true = true then _ else _)
    rw [if_pos rfl]
    refine ⟨by show (firstT s.t).length ≤ c.got.length + (firstT s.t).length; omega, ?_⟩
    show Bal r (c.got.length + (firstT s.t).length - (firstT s.t).length + 1)
    rw [Nat.add_sub_cancel]
    exact hbal
  · intro q hq
    have hq : q ∈ (firstT s.t).map (fun t => (⟨t, s.k, false, false, false⟩ : Fr)) ++ { s with begun := true } :: r := hq
    have gr : Grow c (beginC c s r) := Grow.of_eq rfl
    rcases List.mem_append.mp hq with h | h
    · obtain ⟨t, ht, rfl⟩ := List.mem_map.mp h
      obtain ⟨i, hi⟩ := List.mem_iff_getElem?.mp ht
      have hk : (kidsT s.t)[i]? = some t ∧ ∀ xs, inn (hdT s.t) i xs = xs := by
        unfold firstT at hi
        cases hl : lazyH (hdT s.t) with
        | true =>
          rw [hl, if_pos rfl, List.getElem?_take] at hi
          by_cases h1 : i < 1
          · have : i = 0 := by omega
            subst this
            rw [if_pos h1] at hi
            exact ⟨hi, fun xs => by cases hdT s.t <;> rfl⟩
          · rw [if_neg h1] at hi
            cases hi
        | false =>
          rw [hl, if_neg Bool.false_ne_true] at hi
          exact ⟨hi, fun xs => by cases hh : hdT s.t <;> first | rfl | (rw [hh] at hl; cases hl)⟩
      obtain ⟨xs, h1, h2⟩ := fs.sc
      have h3 := ok_kid h1 hk.1
      rw [hk.2] at h3
      exact FrOk.grow gr ⟨fs.k, ar_kid fs.ar hk.1, xs, h3, h2⟩
    · rcases List.mem_cons.mp h with rfl | h
      · exact FrOk.grow gr ⟨fs.k, fs.ar, fs.sc⟩
      · exact FrOk.grow gr (w.fr q (by rw [e]; exact List.mem_cons_of_mem _ h))
  · unfold mu
    show (c.most - c.asked) * 100 + (((firstT s.t).map (fun t => (⟨t, s.k, false, false, false⟩ : Fr)) ++ { s with begun := true } :: r).map wF).sum + fU c.fin < _
    rw [sum_first, e, List.map_cons, List.sum_cons, List.map_cons, List.sum_cons]
    have h1 : wF { s with begun := true } = 1 + 2 * cnts (restT s.t) := if_pos rfl
    have h2 : wF s = 2 * cnt s.t := by
      unfold wF
      rw [hb, if_neg Bool.false_ne_true]
    have h3 := cnt_fr s.t
    rw [h1, h2]
    omega
theorem ask_ok {es : List Er} {hd : Str → Option Nat} (E : EsOk es hd) {c : Cf} {f : Str} {ns : List Int} {wt : Int} (hgo : c.fin = .no) (has : c.asked ≤ c.most) (hf : hd f = some ns.length) (hbal : Bal c.steps (c.got.length + 1)) (hfr : ∀ s ∈ c.steps, FrOk hd c s) :
    (WfC es hd (askC es c f ns wt) ∨ (askC es c f ns wt).fin = .long) ∧ mu (askC es c f ns wt) < mu c := by
  obtain ⟨e, h1, _, _, h4, h5, h6, h7⟩ := E.found hf
  unfold askC
  by_cases ha : c.asked = c.most
  · rw [if_pos ha]
    refine ⟨.inr rfl, ?_⟩
    unfold mu
    rw [hgo]
    show (c.most - c.asked) * 100 + (c.steps.map wF).sum + 0 < (c.most - c.asked) * 100 + (c.steps.map wF).sum + 1
    omega
  · rw [if_neg ha, h1]
    let c1 : Cf := { c with asked := c.asked + 1, trail := c.trail ++ [.ask f ns], deepest := max c.deepest wt, asks := c.asks ++ [(envOf e.2.1 ns, wt)], steps := ⟨e.2.2, c.asks.length, true, true, false⟩ :: c.steps }
    have gr : Grow c c1 := ⟨by show _ ≤ (c.asks ++ [_]).length; rw [List.length_append]; omega, fun k hk x z hz => ⟨z, by rw [envAt_new hk (c' := c1) rfl]; exact hz⟩⟩
    refine ⟨.inl (show WfC es hd c1 from ⟨hgo, by show c.asked + 1 ≤ c.most; omega, ?_, ?_⟩), ?_⟩
    · show (if false = true then _ else Bal c.steps (c.got.length + 1))
      rw [if_neg Bool.false_ne_true]
      exact hbal
    · intro q hq
      rcases List.mem_cons.mp hq with rfl | h
      · refine ⟨?_, h6, e.2.1, h5, fun x hx => ?_⟩
        · show c.asks.length < (c.asks ++ [_]).length
          rw [List.length_append]
          exact Nat.lt_succ_self _
        · show ∃ z, envAt c1 c.asks.length x = some z
          rw [envAt_last (c' := c1) rfl]
          exact envOf_some h4 hx
      · exact (hfr q h).grow gr
    · show mu c1 < mu c
      unfold mu
      show (c.most - (c.asked + 1)) * 100 + (2 * cnt e.2.2 + (c.steps.map wF).sum) + fU c.fin < (c.most - c.asked) * 100 + (c.steps.map wF).sum + fU c.fin
      omega
end KB

namespace KB
open PySem L2 HT

theorem bal_begun {s : Fr} {r : List Fr} {g : Nat} (hb : s.begun = true) (h : Bal (s :: r) g) : (firstT s.t).length ≤ g ∧ Bal r (g - (firstT s.t).length + 1) := by
  have h0 : (if s.begun = true then (firstT s.t).length ≤ g ∧ Bal r (g - (firstT s.t).length + 1) else Bal r (g + 1)) := h
  rwa [if_pos hb] at h0
theorem bal_new {s : Fr} {r : List Fr} {g : Nat} (hb : s.begun = false) (h : Bal r (g + 1)) : Bal (s :: r) g := by
  show (if s.begun = true then (firstT s.t).length ≤ g ∧ Bal r (g - (firstT s.t).length + 1) else Bal r (g + 1))
  rw [hb, if_neg Bool.false_ne_true]
  exact h
theorem first_len {t : Tm} (h : arT t) : (firstT t).length = (if lazyH (hdT t) = true then 1 else (kidsT t).length) := by
  have := ar_len h
  unfold firstT
  cases hh : hdT t <;> rw [hh] at this <;> simp only [lazyH, Bool.false_eq_true, if_true, if_false] <;> first | rfl | skip
  all_goals
    rw [List.length_take]
    have this : (kidsT t).length = _ := this
    omega
theorem cnts_mem {t : Tm} : ∀ {ts : List Tm}, t ∈ ts → cnt t ≤ cnts ts
  | u :: r, h => by
    rw [cnts_cons]
    rcases List.mem_cons.mp h with q | q
    · rw [q]
      omega
    · have := cnts_mem (t := t) (ts := r) q
      omega
theorem rest_kid {t : Tm} {i : Nat} (hl : lazyH (hdT t) = true) (h0 : 1 ≤ i) (hi : i < (kidsT t).length) : 2 * cnt (kid t i) ≤ 2 * cnts (restT t) := by
  have : kid t i ∈ restT t := by
    unfold restT
    rw [if_pos hl]
    refine List.mem_iff_getElem?.mpr ⟨i - 1, ?_⟩
    rw [List.getElem?_drop, show 1 + (i - 1) = i by omega]
    exact kid_eq hi
  have := cnts_mem this
  omega
theorem getD_some {l : List Int} {i : Nat} (h : i < l.length) : l[i]? = some (l.getD i 0) := by
  rw [List.getElem?_eq_getElem h]
  simp [List.getD, List.getElem?_eq_getElem h]
/-- the step on top is brought to its end -/
theorem wf_fin {es : List Er} {hd : Str → Option Nat} (E : EsOk es hd) {c : Cf} {s : Fr} {r : List Fr} (w : WfC es hd c) (e : c.steps = s :: r) (hb : s.begun = true) :
    (WfC es hd (finC es { c with steps := r } s) ∨ (finC es { c with steps := r } s).fin = .long) ∧ mu (finC es { c with steps := r } s) < mu c := by
  have fs := w.fr s (by rw [e]; exact List.mem_cons_self)
  have hbal := w.bal
  rw [e] at hbal
  obtain ⟨hn, hbal⟩ := bal_begun hb hbal
  have hfl := first_len fs.ar
  have har := ar_len fs.ar
  obtain ⟨xs, hsc, hen⟩ := fs.sc
  have hrf : ∀ (c' : Cf), Grow c c' → ∀ q ∈ r, FrOk hd c' q := fun c' g q hq => (w.fr q (by rw [e]; exact List.mem_cons_of_mem _ hq)).grow g
  have hmu : mu c = (c.most - c.asked) * 100 + (wF s + (r.map wF).sum) + 1 := by
    unfold mu
    rw [e, List.map_cons, List.sum_cons, w.go]
    rfl
  have hw : wF s = 1 + 2 * cnts (restT s.t) := if_pos hb
  have plain : ∀ c' : Cf, c'.most = c.most → c'.asked = c.asked → c'.fin = .no → c'.steps = r → c'.asks = c.asks → c'.got.length = c.got.length - (firstT s.t).length + 1 → (WfC es hd c' ∨ c'.fin = .long) ∧ mu c' < mu c := by
    intro c' h1 h2 h3 h4 h5 h6
    refine ⟨.inl ⟨h3, by rw [h1, h2]; exact w.as_, by rw [h4, h6]; exact hbal, by rw [h4]; exact hrf c' (Grow.of_eq h5)⟩, ?_⟩
    rw [hmu]
    unfold mu
    rw [h1, h2, h3, h4]
    show (c.most - c.asked) * 100 + (r.map wF).sum + 1 < _
    omega
  have put : ∀ (c' : Cf) (i : Nat) (l1 l2 : Bool), lazyH (hdT s.t) = true → 1 ≤ i → i < (kidsT s.t).length → c'.most = c.most → c'.asked = c.asked → c'.fin = .no → c'.steps = ⟨kid s.t i, s.k, l1, l2, false⟩ :: r → Grow c c' →
      (∀ x ∈ inn (hdT s.t) i xs, ∃ z, envAt c' s.k x = some z) → c'.got.length = c.got.length - 1 → (WfC es hd c' ∨ c'.fin = .long) ∧ mu c' < mu c := by
    intro c' i l1 l2 hl h0 hi h1 h2 h3 h4 h5 h6 h7
    rw [hl, if_pos rfl] at hfl
    refine ⟨.inl ⟨h3, by rw [h1, h2]; exact w.as_, ?_, ?_⟩, ?_⟩
    · rw [h4, h7]
      refine bal_new rfl ?_
      rw [hfl] at hbal
      exact hbal
    · rw [h4]
      intro q hq
      rcases List.mem_cons.mp hq with rfl | hq
      · exact ⟨Nat.lt_of_lt_of_le fs.k h5.1, ar_kid fs.ar (kid_eq hi), _, ok_kid hsc (kid_eq hi), h6⟩
      · exact hrf c' h5 q hq
    · rw [hmu]
      unfold mu
      rw [h1, h2, h3, h4, List.map_cons, List.sum_cons]
      have hk := rest_kid hl h0 hi
      have : wF ⟨kid s.t i, s.k, l1, l2, false⟩ = 2 * cnt (kid s.t i) := rfl
      rw [this]
      show (c.most - c.asked) * 100 + (2 * cnt (kid s.t i) + (r.map wF).sum) + 1 < _
      omega
  unfold finC
  cases hh : hdT s.t with
  | num z =>
    rw [hh] at hfl har
    have har : (kidsT s.t).length = 0 := har
    have hfl : (firstT s.t).length = (kidsT s.t).length := hfl
    exact plain _ rfl rfl w.go rfl rfl (by show c.got.length + 1 = _; omega)
  | nam x =>
    rw [hh] at hfl har
    have har : (kidsT s.t).length = 0 := har
    have hfl : (firstT s.t).length = (kidsT s.t).length := hfl
    exact plain _ rfl rfl w.go rfl rfl (by show c.got.length + 1 = _; omega)
  | plus =>
    rw [hh] at hfl har
    have har : (kidsT s.t).length = 2 := har
    have hfl : (firstT s.t).length = (kidsT s.t).length := hfl
    exact plain _ rfl rfl w.go rfl rfl (by show (c.got.drop 2).length + 1 = _; rw [List.length_drop]; omega)
  | less =>
    rw [hh] at hfl har
    have har : (kidsT s.t).length = 2 := har
    have hfl : (firstT s.t).length = (kidsT s.t).length := hfl
    exact plain _ rfl rfl w.go rfl rfl (by show (c.got.drop 2).length + 1 = _; rw [List.length_drop]; omega)
  | tell =>
    rw [hh] at hfl har
    have har : (kidsT s.t).length = 1 := har
    have hfl : (firstT s.t).length = (kidsT s.t).length := hfl
    exact plain _ rfl rfl w.go rfl rfl (by show c.got.length = _; omega)
  | lett x =>
    rw [hh] at har
    have har : (kidsT s.t).length = 2 := har
    refine put _ 1 s.led s.last (by rw [hh]; rfl) (Nat.le_refl _) (by omega) rfl rfl w.go rfl (grow_put (x := x) rfl) ?_ (by show (c.got.drop 1).length = _; rw [List.length_drop])
    rw [hh]
    intro y hy
    have hy : y ∈ xs ++ [x] := hy
    show ∃ z, envAt _ s.k y = some z
    rw [envAt_put (c := c) (k := s.k) (x := x) rfl fs.k, if_pos rfl]
    by_cases c1 : y = x
    · exact ⟨_, if_pos c1⟩
    · rw [if_neg c1]
      rcases List.mem_append.mp hy with h | h
      · exact hen y h
      · exact absurd (List.mem_singleton.mp h) c1
  | iff =>
    rw [hh] at har
    have har : (kidsT s.t).length = 3 := har
    by_cases c0 : c.got.getD 0 0 = 0
    · refine put _ 2 true s.last (by rw [hh]; rfl) (by omega) (by omega) rfl rfl w.go ?_ (Grow.of_eq rfl) (by rw [hh]; exact hen) (by show (c.got.drop 1).length = _; rw [List.length_drop])
      show (⟨if c.got.getD 0 0 = 0 then kid s.t 2 else kid s.t 1, s.k, true, s.last, false⟩ : Fr) :: r = _
      rw [if_pos c0]
    · refine put _ 1 true s.last (by rw [hh]; rfl) (by omega) (by omega) rfl rfl w.go ?_ (Grow.of_eq rfl) (by rw [hh]; exact hen) (by show (c.got.drop 1).length = _; rw [List.length_drop])
      show (⟨if c.got.getD 0 0 = 0 then kid s.t 2 else kid s.t 1, s.k, true, s.last, false⟩ : Fr) :: r = _
      rw [if_neg c0]
  | ask f =>
    rw [hh] at hfl har
    have hfl : (firstT s.t).length = (kidsT s.t).length := hfl
    have hfd : hd f = some (kidsT s.t).length := by
      cases ht : s.t with
      | mk h n k =>
        rw [ht] at hsc hh
        have hh : h = .ask f := hh
        subst hh
        rw [kids_len]
        exact hsc.1
    have hlen : (c.got.take (kidsT s.t).length).reverse.length = (kidsT s.t).length := by
      rw [List.length_reverse, List.length_take]
      omega
    have key := ask_ok E (c := { c with steps := r, left := leftC { c with steps := r } s, got := c.got.drop (kidsT s.t).length }) (f := f) (ns := (c.got.take (kidsT s.t).length).reverse)
      (wt := if s.last = true then waitAt { c with steps := r } s.k else waitAt { c with steps := r } s.k + 1) w.go w.as_ (by rw [hlen]; exact hfd)
      (by show Bal r ((c.got.drop (kidsT s.t).length).length + 1); rw [List.length_drop, ← hfl]; exact hbal) (fun q hq => by refine hrf _ ?_ q hq; exact Grow.of_eq rfl)
    refine ⟨key.1, Nat.lt_of_lt_of_le key.2 ?_⟩
    rw [hmu]
    unfold mu
    show (c.most - c.asked) * 100 + (r.map wF).sum + fU c.fin ≤ _
    rw [w.go]
    show (c.most - c.asked) * 100 + (r.map wF).sum + 1 ≤ _
    omega
theorem wf_step {es : List Er} {hd : Str → Option Nat} (E : EsOk es hd) {c : Cf} (w : WfC es hd c) : (WfC es hd (stepC es c) ∨ (stepC es c).fin ≠ .no) ∧ mu (stepC es c) < mu c := by
  unfold stepC
  cases e : c.steps with
  | nil =>
    refine ⟨.inr (fun z => by cases z), ?_⟩
    unfold mu
    show (c.most - c.asked) * 100 + 0 + 0 < (c.most - c.asked) * 100 + (c.steps.map wF).sum + fU c.fin
    rw [w.go]
    show (c.most - c.asked) * 100 + 0 + 0 < (c.most - c.asked) * 100 + (c.steps.map wF).sum + 1
    omega
  | cons s r =>
    show (WfC es hd (if s.begun = true then _ else _) ∨ (if s.begun = true then finC es { c with steps := r } s else beginC c s r).fin ≠ .no) ∧ mu (if s.begun = true then finC es { c with steps := r } s else beginC c s r) < mu c
    cases hb : s.begun with
    | true =>
      rw [if_pos rfl]
      have h := wf_fin E w e hb
      exact ⟨h.1.imp_right fun q z => (by rw [q] at z; cases z), h.2⟩
    | false =>
      rw [if_neg Bool.false_ne_true]
      have h := wf_begin w e hb
      exact ⟨.inl h.1, h.2⟩
end KB

namespace KB
open PySem L2 HT

structure TxR (K : PySem.W.Frag) (mg : Str → Option Value) (CA CS C : Addr) : Prop where
  clA : Cls K CA
  aWords : NoAttr K CA "words"
  aWaiting : NoAttr K CA "waiting"
  clS : Cls K CS
  sTerm : NoAttr K CS "term"
  sAsking : NoAttr K CS "asking"
  sLed : NoAttr K CS "led"
  sLast : NoAttr K CS "last"
  sBegun : NoAttr K CS "begun"
  clR : Cls K C
  rErrands : NoAttr K C "errands"
  rMost : NoAttr K C "most"
  rTrail : NoAttr K C "trail"
  rEnd : NoAttr K C "end"
  rDeep : NoAttr K C "deepest"
  rLeft : NoAttr K C "left"
  rAsked : NoAttr K C "asked"
  rSteps : NoAttr K C "steps"
  rGot : NoAttr K C "got"
  mgA : mg "Asking" = some (.ref CA)
  mgS : mg "Step" = some (.ref CS)
  mgR : mg "Running" = some (.ref C)
  num : ∃ t, mg "NUMBERS" = some (.int 1000 t)
  zip_ : mg "zip" = none
theorem len3 {α : Type} {x y z : α} {r : List α} : 3 ≤ (x :: y :: z :: r).length := Nat.succ_le_succ len2

section
variable {P : Program} {w : World} {K : PySem.W.Frag} {mg : Str → Option Value} {base : Heap} {CA CS C : Addr}
/-! ### first_parts -/
def spFirst : Sp := fun vs H Q _ => ∃ a h xs, vs = [.ref a] ∧ Lay H a h xs ∧ ∀ p H', Same H H' → H' p = some (.tup (if lazyH h = true then xs.take 1 else xs)) → Q (.ref p) H'
abbrev sfirst : Stmt := top 9
theorem scfirst : FnScope ["term"] ["term"] (defScope sfirst) := ⟨rfl, rfl, rfl, by decide +kernel, rfl, by decide +kernel, by decide +kernel⟩
theorem ok_first {f g : Addr} {fd gd : FuncData} (F : Fun K "first_parts" "first_parts" sfirst f fd) (Gparts : FnOk P w K mg base CX0 1 g gd ["term"] spParts) (Rparts : Ref K mg "parts_of" g gd ["term"]) : FnOk P w K mg base CX0 2 f fd ["term"] spFirst := by
  refine F.ok scfirst (fun vs H Q E h => ?_) (fun cdv A outer s H vs Q E hr h => ?_)
  · obtain ⟨a, h, xs, rfl, _⟩ := h
    rfl
  obtain ⟨a, h, xs, rfl, l, q⟩ := h
  refine ⟨_, (pss_cons (ps_if (pt_cmpR op_in_seq (pe_ix ix_tup (pv 0) pe_int (fun _ _ => rfl)) (pe_tup (pa_cons pe_str (pa_cons pe_str pa_nil))) rfl)
      (pss_one (ps_ret (pe_slice sl_tupA (pe_call Gparts (hr.mono (by omega)) rfl Rparts.m Rparts.k Rparts.b .nil pass0 (pa_cons (pv 0) pa_nil)) po_none (po_some pe_int)))) pss_nil)
    (pss_one (ps_ret (pe_call Gparts (hr.mono (by omega)) rfl Rparts.m Rparts.k Rparts.b .nil pass0 (pa_cons (pv 0) pa_nil))))), ?_⟩
  obtain ⟨r, hd⟩ := l.head
  refine ⟨_, rfl, a, _, _, _, rfl, rfl, SqT.of hd, at0, sz (by show 2 ≤ 100000; decide), fun t ht => ?_⟩
  have s1 := same_new ht (.tup [.str "let", .str "if"])
  have l1 := l.mono s1
  refine ⟨t, _, rfl, .inr (SqT.of upd_same), rfl, rfl, _, rfl, ?_⟩
  have lz : (∃ n, lazyH h = true ∧ xs.length = n + 1) → ∀ p H', Same (upd H t (.tup [.str "let", .str "if"])) H' → H' p = some (.tup xs) → ∀ q' : Addr, H' q' = none → Q (.ref q') (upd H' q' (.tup (cutV xs none (some 1)))) := fun ⟨n, e1, e2⟩ p H' e _ q' hq' => by
    refine q q' _ ((s1.trans e).trans (same_new hq' _)) ?_
    rw [upd_same, if_pos e1, cut_to (by decide) (by rw [e2]; exact Nat.succ_le_succ (Nat.zero_le n))]
    rfl
  cases h with
  | num z =>
    refine itF rfl ⟨_, rfl, a, _, _, rfl, l1, fun p H' e hp => q p H' (s1.trans e) hp⟩
  | nam z =>
    refine itF rfl ⟨_, rfl, a, _, _, rfl, l1, fun p H' e hp => q p H' (s1.trans e) hp⟩
  | ask f =>
    refine itF rfl ⟨_, rfl, a, _, _, rfl, l1, fun p H' e hp => q p H' (s1.trans e) hp⟩
  | plus | less | tell =>
    refine itF rfl ⟨_, rfl, a, _, _, rfl, l1, fun p H' e hp => q p H' (s1.trans e) hp⟩
  | lett x =>
    refine itT rfl ⟨_, rfl, a, _, _, rfl, l1, fun p H' e hp => ⟨_, rfl, p, xs, rfl, SqT.of hp, fun hw => ?_, fun _ q' hq' => lz ⟨1, rfl, l.1⟩ p H' e hp q' hq'⟩⟩
    exact absurd hw.2 (by
      rw [sIx_at (by decide) (by rw [l.1]; decide), l.1]
      decide)
  | iff =>
    refine itT rfl ⟨_, rfl, a, _, _, rfl, l1, fun p H' e hp => ⟨_, rfl, p, xs, rfl, SqT.of hp, fun hw => ?_, fun _ q' hq' => lz ⟨2, rfl, l.1⟩ p H' e hp q' hq'⟩⟩
    exact absurd hw.2 (by
      rw [sIx_at (by decide) (by rw [l.1]; decide), l.1]
      decide)
/-! ### the two small objects -/
def spAskI (CA : Addr) : Sp := fun vs H Q _ => ∃ (p dx : Addr) (x y : V), vs = [.ref p, x, y] ∧ H p = some (.ins CA dx []) ∧ Q .non (upd H p (.ins CA dx (fsA x y)))
abbrev sAskI : Stmt := inClass (top 26) 0
theorem scAskI : FnScope ["self", "words", "waiting"] ["self", "words", "waiting"] (defScope sAskI) := ⟨rfl, rfl, rfl, by decide +kernel, rfl, by decide +kernel, by decide +kernel⟩
theorem ok_askI (T : TxR K mg CA CS C) {f : Addr} {fd : FuncData} (F : Fun K "__init__" "Asking.__init__" sAskI f fd) : FnOk P w K mg base CX0 1 f fd ["self", "words", "waiting"] (spAskI CA) := by
  refine F.ok scAskI (fun vs H Q E h => ?_) (fun cdv A outer s H vs Q E hr h => ?_)
  · obtain ⟨p, dx, x, y, rfl, _⟩ := h
    rfl
  obtain ⟨p, dx, x, y, rfl, hp, q⟩ := h
  refine ⟨_, pss_cons (ps_fld (pv 0) (pv 1) rfl) (pss_one (ps_fld (pv 0) (pv 2) rfl)), ?_⟩
  refine ⟨_, rfl, _, rfl, p, CA, dx, _, rfl, hp, T.clA, T.aWords, (by show 0 < 1000; decide), _, rfl, _, rfl, p, CA, dx, _, rfl, upd_same, T.clA, T.aWaiting, (by show 1 < 1000; decide), ?_⟩
  rw [upd_upd]
  exact q
def spStepI (CS : Addr) : Sp := fun vs H Q _ => ∃ (p dx : Addr) (t a l m : V), vs = [.ref p, t, a, l, m] ∧ H p = some (.ins CS dx []) ∧ Q .non (upd H p (.ins CS dx (fsS ⟨t, a, l, m, .bl false⟩)))
abbrev sStepI : Stmt := inClass (top 27) 0
theorem scStepI : FnScope ["self", "term", "asking", "led", "last"] ["self", "term", "asking", "led", "last"] (defScope sStepI) := ⟨rfl, rfl, rfl, by decide +kernel, rfl, by decide +kernel, by decide +kernel⟩
theorem ok_stepI (T : TxR K mg CA CS C) {f : Addr} {fd : FuncData} (F : Fun K "__init__" "Step.__init__" sStepI f fd) : FnOk P w K mg base CX0 1 f fd ["self", "term", "asking", "led", "last"] (spStepI CS) := by
  refine F.ok scStepI (fun vs H Q E h => ?_) (fun cdv A outer s H vs Q E hr h => ?_)
  · obtain ⟨p, dx, t, a, l, m, rfl, _⟩ := h
    rfl
  obtain ⟨p, dx, t, a, l, m, rfl, hp, q⟩ := h
  refine ⟨_, pss_cons (ps_fld (pv 0) (pv 1) rfl) (pss_cons (ps_fld (pv 0) (pv 2) rfl) (pss_cons (ps_fld (pv 0) (pv 3) rfl) (pss_cons (ps_fld (pv 0) (pv 4) rfl) (pss_one (ps_fld (pv 0) pe_bl rfl))))), ?_⟩
  refine ⟨_, rfl, _, rfl, p, CS, dx, _, rfl, hp, T.clS, T.sTerm, (by show 0 < 1000; decide), _, rfl, _, rfl, p, CS, dx, _, rfl, upd_same, T.clS, T.sAsking, (by show 1 < 1000; decide),
    _, rfl, _, rfl, p, CS, dx, _, rfl, upd_same, T.clS, T.sLed, (by show 2 < 1000; decide), _, rfl, _, rfl, p, CS, dx, _, rfl, upd_same, T.clS, T.sLast, (by show 3 < 1000; decide),
    _, rfl, p, CS, dx, _, rfl, upd_same, T.clS, T.sBegun, (by show 4 < 1000; decide), ?_⟩
  rw [upd_upd, upd_upd, upd_upd, upd_upd]
  exact q
end
end KB

namespace KB
open PySem L2 HT

/-! ### how a run on its way stands in the heap -/
structure Ad where
  dx : Addr
  ed : Addr
  tl : Addr
  sl : Addr
  gl : Addr
  ev : V
  tv : List V
  sa : List Addr
  aa : List (Addr × Addr)
def FeV (H : Hp) : Fe → V → Prop
  | .no, v => v = .non
  | .done z, v => ∃ q, v = .ref q ∧ H q = some (.tup [.str "done", .int z])
  | .long, v => ∃ q, v = .ref q ∧ H q = some (.tup [.str "long"])
def EvV (H : Hp) : Ev → V → Prop
  | .ask f ns, v => ∃ q r, v = .ref q ∧ H q = some (.tup [.str "ask", .str f, .ref r]) ∧ H r = some (.tup (ns.map V.int))
  | .tell z, v => ∃ q, v = .ref q ∧ H q = some (.tup [.str "tell", .int z])
def StAt (CS : Addr) (H : Hp) (aa : List (Addr × Addr)) : List Fr → List Addr → Prop
  | [], [] => True
  | s :: r, a :: as => (∃ dx tb k, aa[s.k]? = some k ∧ H a = some (.ins CS dx (fsS ⟨.ref tb, .ref k.1, .bl s.led, .bl s.last, .bl s.begun⟩)) ∧ At H s.t tb) ∧ StAt CS H aa r as
  | _, _ => False
def AskAt (CA : Addr) (H : Hp) (sz : Nat) : List (Env × Int) → List (Addr × Addr) → Prop
  | [], [] => True
  | e :: r, k :: ks => (∃ dx kvs, H k.1 = some (.ins CA dx (fsA (.ref k.2) (.int e.2))) ∧ H k.2 = some (.dK kvs) ∧ kvs.length ≤ sz ∧ ∀ x : Str, valV kvs (Sum.inr x) = (e.1 x).map V.int) ∧ AskAt CA H sz r ks
  | _, _ => False
theorem FeV.tk {H H' : Hp} (e : TK H H') {f : Fe} {v : V} (h : FeV H f v) : FeV H' f v := by
  cases f with
  | no => exact h
  | done z => exact let ⟨q, a, b⟩ := h; ⟨q, a, e _ _ b⟩
  | long => exact let ⟨q, a, b⟩ := h; ⟨q, a, e _ _ b⟩
theorem EvV.tk {H H' : Hp} (e : TK H H') {f : Ev} {v : V} (h : EvV H f v) : EvV H' f v := by
  cases f with
  | ask f ns => exact let ⟨q, r, a, b, c⟩ := h; ⟨q, r, a, e _ _ b, e _ _ c⟩
  | tell z => exact let ⟨q, a, b⟩ := h; ⟨q, a, e _ _ b⟩
theorem StAt.ins {CS : Addr} {H : Hp} {aa : List (Addr × Addr)} : ∀ {fs : List Fr} {sa : List Addr}, StAt CS H aa fs sa → ∀ a ∈ sa, ∃ dx r, H a = some (.ins CS dx (fsS r))
  | [], [], _, a, h => by cases h
  | s :: fs, b :: sa, h, a, ha => by
    rcases List.mem_cons.mp ha with rfl | ha
    · obtain ⟨dx, tb, k, _, h1, _⟩ := h.1
      exact ⟨dx, _, h1⟩
    · exact StAt.ins h.2 a ha
  | [], _ :: _, h, _, _ => h.elim
  | _ :: _, [], h, _, _ => h.elim
theorem StAt.keep {CS : Addr} {H H' : Hp} {aa aa' : List (Addr × Addr)} (tk : TK H H') (ha : ∀ (k : Nat) (x : Addr × Addr), aa[k]? = some x → aa'[k]? = some x) : ∀ {fs : List Fr} {sa : List Addr}, (∀ a ∈ sa, ∀ o, H a = some o → H' a = some o) → StAt CS H aa fs sa → StAt CS H' aa' fs sa
  | [], [], _, h => h
  | s :: fs, a :: sa, hk, h => by
    obtain ⟨⟨dx, tb, k, h0, h1, h2⟩, h3⟩ := h
    exact ⟨⟨dx, tb, k, ha _ _ h0, hk a List.mem_cons_self _ h1, h2.tk tk⟩, StAt.keep tk ha (fun b hb => hk b (List.mem_cons_of_mem _ hb)) h3⟩
  | [], _ :: _, _, h => h.elim
  | _ :: _, [], _, h => h.elim
theorem StAt.len {CS : Addr} {H : Hp} {aa : List (Addr × Addr)} : ∀ {fs : List Fr} {sa : List Addr}, StAt CS H aa fs sa → sa.length = fs.length
  | [], [], _ => rfl
  | s :: fs, b :: sa, h => by rw [List.length_cons, List.length_cons, StAt.len h.2]
  | [], _ :: _, h => h.elim
  | _ :: _, [], h => h.elim
theorem AskAt.both {CA : Addr} {H : Hp} {sz : Nat} : ∀ {es : List (Env × Int)} {aa : List (Addr × Addr)}, AskAt CA H sz es aa → ∀ k ∈ aa, (∃ dx x n, H k.1 = some (.ins CA dx (fsA x n))) ∧ ∃ kvs, H k.2 = some (.dK kvs)
  | [], [], _, a, h => by cases h
  | e :: es, b :: aa, h, a, ha => by
    rcases List.mem_cons.mp ha with rfl | ha
    · obtain ⟨dx, kvs, h1, h2, _⟩ := h.1
      exact ⟨⟨dx, _, _, h1⟩, kvs, h2⟩
    · exact AskAt.both h.2 a ha
  | [], _ :: _, h, _, _ => h.elim
  | _ :: _, [], h, _, _ => h.elim
theorem AskAt.keep {CA : Addr} {H H' : Hp} {sz sz' : Nat} (hz : sz ≤ sz') : ∀ {es : List (Env × Int)} {aa : List (Addr × Addr)}, (∀ k ∈ aa, (∀ o, H k.1 = some o → H' k.1 = some o) ∧ ∀ o, H k.2 = some o → H' k.2 = some o) → AskAt CA H sz es aa → AskAt CA H' sz' es aa
  | [], [], _, h => h
  | e :: es, k :: aa, hk, h => by
    obtain ⟨⟨dx, kvs, h1, h2, h3, h4⟩, h5⟩ := h
    have := hk k List.mem_cons_self
    exact ⟨⟨dx, kvs, this.1 _ h1, this.2 _ h2, Nat.le_trans h3 hz, h4⟩, AskAt.keep hz (fun b hb => hk b (List.mem_cons_of_mem _ hb)) h5⟩
  | [], _ :: _, _, h => h.elim
  | _ :: _, [], _, h => h.elim
theorem AskAt.app {CA : Addr} {H : Hp} {sz : Nat} {e : Env × Int} {k : Addr × Addr} : ∀ {es : List (Env × Int)} {aa : List (Addr × Addr)}, AskAt CA H sz es aa → AskAt CA H sz [e] [k] → AskAt CA H sz (es ++ [e]) (aa ++ [k])
  | [], [], _, h => h
  | _ :: _, _ :: _, h, h' => ⟨h.1, AskAt.app h.2 h'⟩
  | [], _ :: _, h, _ => h.elim
  | _ :: _, [], h, _ => h.elim
theorem AskAt.get {CA : Addr} {H : Hp} {sz : Nat} : ∀ {es : List (Env × Int)} {aa : List (Addr × Addr)} {i : Nat} {k : Addr × Addr}, AskAt CA H sz es aa → aa[i]? = some k →
    ∃ e, es[i]? = some e ∧ ∃ dx kvs, H k.1 = some (.ins CA dx (fsA (.ref k.2) (.int e.2))) ∧ H k.2 = some (.dK kvs) ∧ kvs.length ≤ sz ∧ ∀ x : Str, valV kvs (Sum.inr x) = (e.1 x).map V.int
  | e :: _, _ :: _, 0, k, h, hk => by
    cases (Option.some.inj hk)
    exact ⟨e, rfl, h.1⟩
  | _ :: es, _ :: aa, i + 1, k, h, hk => AskAt.get (es := es) (aa := aa) (i := i) h.2 hk
  | [], [], _, _, _, hk => by cases hk
  | [], _ :: _, _, _, h, _ => h.elim
  | _ :: _, [], _, _, h, _ => h.elim
theorem AskAt.len {CA : Addr} {H : Hp} {sz : Nat} : ∀ {es : List (Env × Int)} {aa : List (Addr × Addr)}, AskAt CA H sz es aa → aa.length = es.length
  | [], [], _ => rfl
  | _ :: _, _ :: _, h => by rw [List.length_cons, List.length_cons, AskAt.len h.2]
  | [], _ :: _, h => h.elim
  | _ :: _, [], h => h.elim
def ErAt (H : Hp) (es : List Er) (ed : Addr) : Prop := ∃ kvs, H ed = some (.dK kvs) ∧ ∀ e ∈ es, ∃ q r b, valV kvs (Sum.inr e.1) = some (.ref q) ∧ H q = some (.tup [.ref r, .ref b]) ∧ H r = some (.tup (e.2.1.map V.str)) ∧ At H e.2.2 b
theorem ErAt.tk {H H' : Hp} (t : TK H H') {es : List Er} {ed : Addr} (hk : ∀ o, H ed = some o → H' ed = some o) (h : ErAt H es ed) : ErAt H' es ed :=
  let ⟨kvs, h1, h2⟩ := h; ⟨kvs, hk _ h1, fun e he => let ⟨q, r, b, a1, a2, a3, a4⟩ := h2 e he; ⟨q, r, b, a1, t _ _ a2, t _ _ a3, a4.tk t⟩⟩
def rv (c : Cf) (d : Ad) : RV := ⟨.ref d.ed, .int c.most, .ref d.tl, d.ev, .int c.deepest, .int c.left, .int c.asked, .ref d.sl, .ref d.gl⟩
structure RunAt (CA CS C : Addr) (H0 H : Hp) (es : List Er) (sz : Nat) (p : Addr) (c : Cf) (d : Ad) : Prop where
  same : Same H0 H
  np : H0 p = none
  fr : H0 d.tl = none ∧ H0 d.sl = none ∧ H0 d.gl = none
  fs : ∀ a ∈ d.sa, H0 a = none
  fa : ∀ k ∈ d.aa, H0 k.2 = none
  ob : H p = some (.ins C d.dx (fsR (rv c d)))
  ev : FeV H c.fin d.ev
  er : ErAt H es d.ed
  tr : H d.tl = some (.lst d.tv)
  te : All2 (EvV H) c.trail d.tv
  tz : c.trail.length ≤ sz
  gt : H d.gl = some (.lst (c.got.reverse.map V.int))
  gz : c.got.length ≤ sz
  sl : H d.sl = some (.lst (d.sa.reverse.map V.ref))
  st : StAt CS H d.aa c.steps d.sa
  ak : AskAt CA H sz c.asks d.aa
  nd : d.sa.Nodup
  nw : (d.aa.map (·.2)).Nodup
  ne : ∀ k ∈ d.aa, k.2 ≠ d.ed
  nl : d.tl ≠ d.sl ∧ d.tl ≠ d.gl ∧ d.sl ≠ d.gl
/-- new things are laid beside it -/
theorem RunAt.mono {CA CS C : Addr} {H0 H H' : Hp} {es : List Er} {sz sz' : Nat} {p : Addr} {c : Cf} {d : Ad} (e : Same H H') (hz : sz ≤ sz') (R : RunAt CA CS C H0 H es sz p c d) : RunAt CA CS C H0 H' es sz' p c d where
  same := R.same.trans e
  np := R.np
  fr := R.fr
  fs := R.fs
  fa := R.fa
  ob := e _ _ R.ob
  ev := R.ev.tk (tk_same e)
  er := R.er.tk (tk_same e) fun o => e _ o
  tr := e _ _ R.tr
  te := R.te.imp fun _ _ z => z.tk (tk_same e)
  tz := Nat.le_trans R.tz hz
  gt := e _ _ R.gt
  gz := Nat.le_trans R.gz hz
  sl := e _ _ R.sl
  st := R.st.keep (tk_same e) (fun _ _ z => z) fun a _ o => e a o
  ak := R.ak.keep hz fun k _ => ⟨fun o => e _ o, fun o => e _ o⟩
  nd := R.nd
  nw := R.nw
  ne := R.ne
  nl := R.nl
/-- the heap is changed at b alone, which held no tuple -/
theorem tk_upd {H : Hp} {b : Addr} {o u : HO} (h : H b = some u) (hu : ∀ xs, u ≠ .tup xs) : TK H (upd H b o) := fun a xs e => by
  rw [upd_ne (fun q => by
    subst q
    rw [h] at e
    exact hu xs (Option.some.inj e))]
  exact e
theorem same_upd {H0 H : Hp} {b : Addr} {o : HO} (e : Same H0 H) (h : H0 b = none) : Same H0 (upd H b o) := same_mut e h
theorem kp {H : Hp} {a b : Addr} {o u v : HO} (h : H b = some u) (ha : H a = some v) (d : v ≠ u) : upd H b o a = some v := by
  rw [upd_ne (ne_of ha h d)]
  exact ha
end KB

namespace KB
open PySem L2 HT

section
variable {CA CS C : Addr} {H0 H : Hp} {es : List Er} {sz : Nat} {p : Addr} {c : Cf} {d : Ad}
theorem up_other {b x : Addr} {o u v w' : HO} (hx : H x = some v) (hb : H b = some u) (hd : v ≠ u) (h : H x = some w') : upd H b o x = some w' := by
  rw [upd_ne (ne_of hx hb hd)]
  exact h
theorem RunAt.er_ed (R : RunAt CA CS C H0 H es sz p c d) : ∃ kvs, H d.ed = some (.dK kvs) := let ⟨kvs, h, _⟩ := R.er; ⟨kvs, h⟩
/-- one of the three lists is changed -/
theorem RunAt.lstK (R : RunAt CA CS C H0 H es sz p c d) {b : Addr} {xs ys : List V} (hb : H b = some (.lst xs)) :
    upd H b (.lst ys) p = some (.ins C d.dx (fsR (rv c d))) ∧ TK H (upd H b (.lst ys)) ∧ ErAt (upd H b (.lst ys)) es d.ed ∧ StAt CS (upd H b (.lst ys)) d.aa c.steps d.sa ∧ ∀ sz', sz ≤ sz' → AskAt CA (upd H b (.lst ys)) sz' c.asks d.aa := by
  have T : TK H (upd H b (.lst ys)) := tk_upd hb (by intro xs q; cases q)
  refine ⟨up_other R.ob hb (by intro q; cases q) R.ob, T, R.er.tk T fun o ho => ?_, R.st.keep T (fun _ _ z => z) fun a ha o ho => ?_, fun sz' hz => R.ak.keep hz fun k hk => ⟨fun o ho => ?_, fun o ho => ?_⟩⟩
  · obtain ⟨kvs, hk⟩ := R.er_ed
    exact up_other hk hb (by intro q; cases q) ho
  · obtain ⟨dx, r, h⟩ := R.st.ins a ha
    exact up_other h hb (by intro q; cases q) ho
  · obtain ⟨⟨dx, x, n, h⟩, _⟩ := R.ak.both k hk
    exact up_other h hb (by intro q; cases q) ho
  · obtain ⟨_, kvs, h⟩ := R.ak.both k hk
    exact up_other h hb (by intro q; cases q) ho
theorem RunAt.putGot (R : RunAt CA CS C H0 H es sz p c d) {g : List Int} {sz' : Nat} (hz : sz ≤ sz') (hg : g.length ≤ sz') :
    RunAt CA CS C H0 (upd H d.gl (.lst (g.reverse.map V.int))) es sz' p { c with got := g } d := by
  obtain ⟨h1, T, h2, h3, h4⟩ := R.lstK (ys := g.reverse.map V.int) R.gt
  exact ⟨same_upd R.same R.fr.2.2, R.np, R.fr, R.fs, R.fa, h1, R.ev.tk T, h2, by rw [upd_ne R.nl.2.1]; exact R.tr, R.te.imp fun _ _ z => z.tk T, Nat.le_trans R.tz hz, upd_same, hg, by rw [upd_ne R.nl.2.2]; exact R.sl, h3, h4 _ hz, R.nd, R.nw, R.ne, R.nl⟩
theorem RunAt.putTrail (R : RunAt CA CS C H0 H es sz p c d) {e : Ev} {v : V} {sz' : Nat} (hz : sz + 1 ≤ sz') (he : EvV H e v) :
    RunAt CA CS C H0 (upd H d.tl (.lst (d.tv ++ [v]))) es sz' p { c with trail := c.trail ++ [e] } { d with tv := d.tv ++ [v] } := by
  obtain ⟨h1, T, h2, h3, h4⟩ := R.lstK (ys := d.tv ++ [v]) R.tr
  have hz0 : sz ≤ sz' := Nat.le_of_succ_le hz
  exact ⟨same_upd R.same R.fr.1, R.np, R.fr, R.fs, R.fa, h1, R.ev.tk T, h2, upd_same, All2.app (R.te.imp fun _ _ z => z.tk T) ⟨he.tk T, trivial⟩, by
    show (c.trail ++ [e]).length ≤ sz'
    rw [List.length_append, List.length_singleton]
    exact Nat.le_trans (Nat.succ_le_succ R.tz) hz, by rw [upd_ne R.nl.2.1.symm]; exact R.gt, Nat.le_trans R.gz hz0, by rw [upd_ne R.nl.1.symm]; exact R.sl, h3, h4 _ hz0, R.nd, R.nw, R.ne, R.nl⟩
theorem RunAt.putSteps (R : RunAt CA CS C H0 H es sz p c d) {fs : List Fr} {sa : List Addr} (hs : StAt CS H d.aa fs sa) (hn : sa.Nodup) (hf : ∀ a ∈ sa, H0 a = none) :
    RunAt CA CS C H0 (upd H d.sl (.lst (sa.reverse.map V.ref))) es sz p { c with steps := fs } { d with sa := sa } := by
  obtain ⟨h1, T, h2, h3, h4⟩ := R.lstK (ys := sa.reverse.map V.ref) R.sl
  refine ⟨same_upd R.same R.fr.2.1, R.np, R.fr, hf, R.fa, h1, R.ev.tk T, h2, by rw [upd_ne R.nl.1]; exact R.tr, R.te.imp fun _ _ z => z.tk T, R.tz, by rw [upd_ne R.nl.2.2.symm]; exact R.gt, R.gz, upd_same, ?_, h4 _ (Nat.le_refl _), hn, R.nw, R.ne, R.nl⟩
  refine hs.keep T (fun _ _ z => z) fun a ha o ho => ?_
  obtain ⟨dx, r, h⟩ := hs.ins a ha
  exact up_other h R.sl (by intro q; cases q) ho
/-- attributes of the run itself are set -/
theorem RunAt.putOb (R : RunAt CA CS C H0 H es sz p c d) {c' : Cf} {v : V} {dx' : Addr} {r : RV} (hv : FeV H c'.fin v) (hr : r = rv c' { d with ev := v, dx := dx' }) (h1 : c'.trail = c.trail) (h2 : c'.steps = c.steps) (h3 : c'.got = c.got) (h4 : c'.asks = c.asks) :
    RunAt CA CS C H0 (upd H p (.ins C dx' (fsR r))) es sz p c' { d with ev := v, dx := dx' } := by
  have T : TK H (upd H p (.ins C dx' (fsR r))) := tk_upd R.ob (by intro xs q; cases q)
  have np : ∀ b u, H b = some u → (∀ dx r, u ≠ .ins C dx (fsR r)) → ∀ o, H b = some o → upd H p (.ins C dx' (fsR r)) b = some o := fun b u hb hu o ho => up_other hb R.ob (hu _ _) ho
  refine ⟨same_upd R.same R.np, R.np, R.fr, R.fs, R.fa, by rw [hr]; exact upd_same, hv.tk T, R.er.tk T fun o ho => ?_, np _ _ R.tr (by intro _ _ q; cases q) _ R.tr, by rw [h1]; exact R.te.imp fun _ _ z => z.tk T, by rw [h1]; exact R.tz,
    np _ _ R.gt (by intro _ _ q; cases q) _ (by rw [h3]; exact R.gt), by rw [h3]; exact R.gz, np _ _ R.sl (by intro _ _ q; cases q) _ R.sl, ?_, ?_, R.nd, R.nw, R.ne, R.nl⟩
  · obtain ⟨kvs, hk⟩ := R.er_ed
    exact np _ _ hk (by intro _ _ q; cases q) _ ho
  · rw [h2]
    refine R.st.keep T (fun _ _ z => z) fun a ha o ho => ?_
    obtain ⟨dx, r', h⟩ := R.st.ins a ha
    exact np _ _ h (by intro _ _ q; cases q) _ ho
  · rw [h4]
    refine R.ak.keep (Nat.le_refl _) fun k hk => ⟨fun o ho => ?_, fun o ho => ?_⟩
    · obtain ⟨⟨dx, x, n, h⟩, _⟩ := R.ak.both k hk
      exact np _ _ h (by intro _ _ q; cases q) _ ho
    · obtain ⟨_, kvs, h⟩ := R.ak.both k hk
      exact np _ _ h (by intro _ _ q; cases q) _ ho
/-- a new asking -/
theorem RunAt.putAsk (R : RunAt CA CS C H0 H es sz p c d) {e : Env × Int} {k : Addr × Addr} (h0 : AskAt CA H sz [e] [k]) (hf : H0 k.2 = none) (hn : ∀ q ∈ d.aa, q.2 ≠ k.2) (he : k.2 ≠ d.ed) :
    RunAt CA CS C H0 H es sz p { c with asks := c.asks ++ [e] } { d with aa := d.aa ++ [k] } := by
  refine ⟨R.same, R.np, R.fr, R.fs, fun q hq => ?_, R.ob, R.ev, R.er, R.tr, R.te, R.tz, R.gt, R.gz, R.sl, R.st.keep (TK.refl _) (fun i x z => ?_) fun _ _ _ z => z, R.ak.app h0, R.nd, ?_, fun q hq => ?_, R.nl⟩
  · rcases List.mem_append.mp hq with h | h
    · exact R.fa q h
    · rw [List.mem_singleton.mp h]
      exact hf
  · rw [List.getElem?_append_left (List.getElem?_eq_some_iff.mp z).1]
    exact z
  · show ((d.aa ++ [k]).map (·.2)).Nodup
    rw [List.map_append]
    refine List.nodup_append.mpr ⟨R.nw, by simp, fun a ha b hb => ?_⟩
    obtain ⟨q, hq, rfl⟩ := List.mem_map.mp ha
    have : b = k.2 := by simpa using hb
    rw [this]
    exact hn q hq
  · rcases List.mem_append.mp hq with h | h
    · exact R.ne q h
    · rw [List.mem_singleton.mp h]
      exact he
end
end KB

namespace KB
open PySem L2 HT

theorem zip_env : ∀ {ws : List Str} {ns : List Int} {acc : List (Key × V)}, ws.length = ns.length → ws.Nodup → ∀ x : Str,
    valV (mergeK acc ((ws.map Sum.inr).zip (ns.map V.int))) (Sum.inr x) = if x ∈ ws then (envOf ws ns x).map V.int else valV acc (Sum.inr x)
  | [], [], acc, _, _, x => by
    rw [if_neg (by simp)]
    rfl
  | [], _ :: _, _, h, _, _ => by simp at h
  | _ :: _, [], _, h, _, _ => by simp at h
  | y :: ws, n :: ns, acc, h, nd, x => by
    have nd' := List.nodup_cons.mp nd
    show valV (mergeK (putK acc (Sum.inr y) (V.int n)) ((ws.map Sum.inr).zip (ns.map V.int))) (Sum.inr x) = _
    rw [zip_env (by simpa using h) nd'.2 x]
    by_cases c : x = y
    · subst c
      rw [if_neg nd'.1, valV_put, if_pos rfl, if_pos List.mem_cons_self]
      show _ = Option.map V.int (if x = x then some n else _)
      rw [if_pos rfl]
      rfl
    · have e : envOf (y :: ws) (n :: ns) x = envOf ws ns x := if_neg c
      rw [e, valV_put, if_neg (fun z => c (Sum.inr.inj z))]
      by_cases m : x ∈ ws
      · rw [if_pos m, if_pos (List.mem_cons_of_mem _ m)]
      · rw [if_neg m, if_neg (fun z => (List.mem_cons.mp z).elim c m)]
theorem envOf_none : ∀ {ws : List Str} {ns : List Int} {x : Str}, x ∉ ws → envOf ws ns x = none
  | [], _, _, _ => by unfold envOf; rfl
  | _ :: _, [], _, _ => by unfold envOf; rfl
  | y :: ws, n :: ns, x, h => by
    have e : envOf (y :: ws) (n :: ns) x = envOf ws ns x := if_neg (fun (z : x = y) => h (by rw [z]; exact List.mem_cons_self))
    rw [e]
    exact envOf_none fun z => h (List.mem_cons_of_mem _ z)
theorem zip_env0 {ws : List Str} {ns : List Int} (h : ws.length = ns.length) (nd : ws.Nodup) (x : Str) : valV (mergeK [] ((ws.map Sum.inr).zip (ns.map V.int))) (Sum.inr x) = (envOf ws ns x).map V.int := by
  rw [zip_env h nd x]
  by_cases m : x ∈ ws
  · rw [if_pos m]
  · rw [if_neg m, envOf_none m]
    rfl
theorem merge_len {ws : List Str} {ns : List Int} : (mergeK [] ((ws.map Sum.inr).zip (ns.map V.int))).length ≤ ws.length := by
  refine Nat.le_trans (length_mergeK _ []) ?_
  rw [List.length_nil, Nat.zero_add, List.length_zip, List.length_map]
  exact Nat.min_le_left _ _
section
variable {CA CS C : Addr} {H0 H : Hp} {es : List Er} {sz : Nat} {p : Addr} {c : Cf} {d : Ad}
/-- the step on top is begun -/
theorem RunAt.putBegun (R : RunAt CA CS C H0 H es sz p c d) {s : Fr} {r : List Fr} {a : Addr} {as : List Addr} {dx dx' tb : Addr} {k : Addr × Addr} (e1 : c.steps = s :: r) (e2 : d.sa = a :: as) (hk : d.aa[s.k]? = some k)
    (ha : H a = some (.ins CS dx (fsS ⟨.ref tb, .ref k.1, .bl s.led, .bl s.last, .bl s.begun⟩))) (ht : At H s.t tb) :
    RunAt CA CS C H0 (upd H a (.ins CS dx' (fsS ⟨.ref tb, .ref k.1, .bl s.led, .bl s.last, .bl true⟩))) es sz p { c with steps := { s with begun := true } :: r } d := by
  have T : TK H (upd H a (.ins CS dx' (fsS ⟨.ref tb, .ref k.1, .bl s.led, .bl s.last, .bl true⟩))) := tk_upd ha (by intro xs q; cases q)
  have hst := R.st
  have hnd := R.nd
  rw [e1, e2] at hst
  rw [e2] at hnd
  have na := (List.nodup_cons.mp hnd).1
  have np : ∀ b u, H b = some u → (∀ dx r, u ≠ .ins CS dx (fsS r)) → ∀ o, H b = some o → upd H a (.ins CS dx' (fsS ⟨.ref tb, .ref k.1, .bl s.led, .bl s.last, .bl true⟩)) b = some o := fun b u hb hu o ho => up_other hb ha (hu _ _) ho
  refine ⟨same_upd R.same (R.fs a (by rw [e2]; exact List.mem_cons_self)), R.np, R.fr, R.fs, R.fa, np _ _ R.ob (by intro _ _ q; cases q) _ R.ob, R.ev.tk T, R.er.tk T fun o ho => ?_, np _ _ R.tr (by intro _ _ q; cases q) _ R.tr, R.te.imp fun _ _ z => z.tk T, R.tz,
    np _ _ R.gt (by intro _ _ q; cases q) _ R.gt, R.gz, np _ _ R.sl (by intro _ _ q; cases q) _ R.sl, ?_, ?_, R.nd, R.nw, R.ne, R.nl⟩
  · obtain ⟨kvs, hk⟩ := R.er_ed
    exact np _ _ hk (by intro _ _ q; cases q) _ ho
  · show StAt CS _ d.aa ({ s with begun := true } :: r) d.sa
    rw [e2]
    refine ⟨⟨dx', tb, k, hk, upd_same, ht.tk T⟩, hst.2.keep T (fun _ _ z => z) fun b hb o ho => ?_⟩
    rw [upd_ne (fun (q : b = a) => na (by rw [← q]; exact hb))]
    exact ho
  · refine R.ak.keep (Nat.le_refl _) fun k hk => ⟨fun o ho => ?_, fun o ho => ?_⟩
    · obtain ⟨⟨dx, x, n, h⟩, _⟩ := R.ak.both k hk
      exact np _ _ h (by intro _ _ q; cases q) _ ho
    · obtain ⟨_, kvs, h⟩ := R.ak.both k hk
      exact np _ _ h (by intro _ _ q; cases q) _ ho
theorem AskAt.put {H H' : Hp} {sz sz' : Nat} {x : Str} {z : Int} (hz : sz + 1 ≤ sz') {w : Addr} {kvs : List (Key × V)} (hw : H w = some (.dK kvs)) (hw' : H' w = some (.dK (putK kvs (Sum.inr x) (.int z)))) (ho : ∀ b o, b ≠ w → H b = some o → H' b = some o) :
    ∀ {es : List (Env × Int)} {aa : List (Addr × Addr)} {i : Nat} {k : Addr × Addr}, AskAt CA H sz es aa → aa[i]? = some k → k.2 = w → (aa.map (·.2)).Nodup → AskAt CA H' sz' (putA es i x z) aa
  | e :: es, k' :: aa, 0, k, h, hk, hkw, nd => by
    cases (Option.some.inj hk)
    subst hkw
    obtain ⟨⟨dx, kvs', h1, h2, h3, h4⟩, h5⟩ := h
    rw [hw] at h2
    cases h2
    have nn := (List.nodup_cons.mp nd).1
    refine ⟨⟨dx, _, ho _ _ (ne_of h1 hw (by intro q; cases q)) h1, hw', Nat.le_trans (length_putK _ _ _) (Nat.le_trans (Nat.succ_le_succ h3) hz), fun y => ?_⟩, h5.keep (Nat.le_of_succ_le hz) fun q hq => ⟨fun o hq' => ?_, fun o hq' => ?_⟩⟩
    · rw [valV_put]
      show _ = Option.map V.int (if y = x then some z else e.1 y)
      by_cases c : y = x
      · rw [if_pos (congrArg Sum.inr c), if_pos c]
        rfl
      · rw [if_neg (fun t => c (Sum.inr.inj t)), if_neg c]
        exact h4 y
    · obtain ⟨⟨dx, a, n, hh⟩, _⟩ := h5.both q hq
      exact ho _ _ (ne_of hh hw (by intro q; cases q)) hq'
    · exact ho _ _ (fun t => nn (List.mem_map.mpr ⟨q, hq, t⟩)) hq'
  | e :: es, k' :: aa, i + 1, k, h, hk, hkw, nd => by
    obtain ⟨⟨dx, kvs', h1, h2, h3, h4⟩, h5⟩ := h
    have nd' := List.nodup_cons.mp nd
    have hm : k ∈ aa := List.mem_of_getElem? (i := i) hk
    refine ⟨⟨dx, kvs', ho _ _ (ne_of h1 hw (by intro q; cases q)) h1, ho _ _ (fun t => nd'.1 (List.mem_map.mpr ⟨k, hm, hkw.trans t.symm⟩)) h2, Nat.le_trans h3 (Nat.le_of_succ_le hz), h4⟩, ?_⟩
    exact AskAt.put hz hw hw' ho (es := es) (aa := aa) (i := i) h5 hk hkw nd'.2
  | [], [], _, _, _, hk, _, _ => by cases hk
  | [], _ :: _, _, _, h, _, _, _ => h.elim
  | _ :: _, [], _, _, h, _, _, _ => h.elim
/-- a word is given its number -/
theorem RunAt.putWord (R : RunAt CA CS C H0 H es sz p c d) {i : Nat} {k : Addr × Addr} {x : Str} {z : Int} {kvs : List (Key × V)} {sz' : Nat} (hz : sz + 1 ≤ sz') (hk : d.aa[i]? = some k) (hw : H k.2 = some (.dK kvs)) :
    RunAt CA CS C H0 (upd H k.2 (.dK (putK kvs (Sum.inr x) (.int z)))) es sz' p { c with asks := putA c.asks i x z } d := by
  have T : TK H (upd H k.2 (.dK (putK kvs (Sum.inr x) (.int z)))) := tk_upd hw (by intro xs q; cases q)
  have hm : k ∈ d.aa := List.mem_of_getElem? hk
  have np : ∀ b u, H b = some u → (∀ kvs, u ≠ .dK kvs) → ∀ o, H b = some o → upd H k.2 (.dK (putK kvs (Sum.inr x) (.int z))) b = some o := fun b u hb hu o ho => up_other hb hw (hu _) ho
  have hz0 : sz ≤ sz' := Nat.le_of_succ_le hz
  refine ⟨same_upd R.same (R.fa k hm), R.np, R.fr, R.fs, R.fa, np _ _ R.ob (by intro _ q; cases q) _ R.ob, R.ev.tk T, R.er.tk T fun o ho => ?_, np _ _ R.tr (by intro _ q; cases q) _ R.tr, R.te.imp fun _ _ z => z.tk T, Nat.le_trans R.tz hz0,
    np _ _ R.gt (by intro _ q; cases q) _ R.gt, Nat.le_trans R.gz hz0, np _ _ R.sl (by intro _ q; cases q) _ R.sl, ?_, ?_, R.nd, R.nw, R.ne, R.nl⟩
  · rw [upd_ne (Ne.symm (R.ne k hm))]
    exact ho
  · refine R.st.keep T (fun _ _ z => z) fun a ha o ho => ?_
    obtain ⟨dx, r', h⟩ := R.st.ins a ha
    exact np _ _ h (by intro _ q; cases q) _ ho
  · exact R.ak.put hz hw upd_same (fun b o hb ho => by rw [upd_ne hb]; exact ho) hk rfl R.nw
end
end KB

namespace KB
open PySem L2 HT

section
variable {P : Program} {w : World} {K : PySem.W.Frag} {mg : Str → Option Value} {base : Heap} {CA CS C : Addr}
theorem lastV {xs : List V} {y : V} : (xs ++ [y])[(xs ++ [y]).length - 1]? = some y := by
  rw [List.length_append, List.length_singleton, Nat.add_sub_cancel, List.getElem?_append_right (Nat.le_refl _), Nat.sub_self]
  rfl
theorem dropV {xs : List V} {y : V} : (xs ++ [y]).dropLast = xs := List.dropLast_concat
/-! ### combined -/
def combI (hd : Str) (a b : Int) : Int := if hd = "plus" then Int.fmod (a + b) 1000 else Int.fmod (a - b) 1000
def spCombd : Sp := fun vs H Q _ => ∃ (hd : Str) (a b : Int), vs = [.str hd, .int a, .int b] ∧ Q (.int (combI hd a b)) H
abbrev scombined : Stmt := top 22
theorem sccombined : FnScope ["head", "first", "second"] ["head", "first", "second"] (defScope scombined) := ⟨rfl, rfl, rfl, by decide +kernel, rfl, by decide +kernel, by decide +kernel⟩
theorem ok_combined (T : TxR K mg CA CS C) {f : Addr} {fd : FuncData} (F : Fun K "combined" "combined" scombined f fd) : FnOk P w K mg base CX0 1 f fd ["head", "first", "second"] spCombd := by
  refine F.ok sccombined (fun vs H Q E h => ?_) (fun cdv A outer s H vs Q E hr h => ?_)
  · obtain ⟨hd, a, b, rfl, _⟩ := h
    rfl
  obtain ⟨hd, a, b, rfl, q⟩ := h
  obtain ⟨tn, mN⟩ := T.num
  refine ⟨_, pss_cons (ps_if (pt_cmpR op_eq (pv 0) pe_str (nomark _)) (pss_one (ps_ret (pe_op op_modN (pe_op op_add (pv 1) (pv 2)) (pe_glob (v := .int 1000) rfl mN ⟨_, rfl⟩)))) pss_nil)
    (pss_one (ps_ret (pe_op op_modN (pe_op op_sub (pv 1) (pv 2)) (pe_glob (v := .int 1000) rfl mN ⟨_, rfl⟩)))), ?_⟩
  refine ⟨_, rfl, rfl, _, rfl, ?_⟩
  by_cases c : hd = "plus"
  · refine itT (decide_eq_true (congrArg V.str c)) ⟨_, rfl, _, rfl, _, _, rfl, rfl, _, _, rfl, rfl, (by show (1000 : Int) ≠ 0; decide), ?_⟩
    unfold combI at q
    rw [if_pos c] at q
    exact q
  · refine itF (decide_eq_false fun z => c (V.str.inj z)) ⟨_, rfl, _, rfl, _, _, rfl, rfl, _, _, rfl, rfl, (by show (1000 : Int) ≠ 0; decide), ?_⟩
    unfold combI at q
    rw [if_neg c] at q
    exact q
/-! ### combine -/
def spComb (C : Addr) : Sp := fun vs H Q _ => ∃ (p dx gl : Addr) (r : RV) (hd : Str) (xs : List V) (a b : Int), vs = [.ref p, .str hd] ∧ H p = some (.ins C dx (fsR r)) ∧ r.got = .ref gl ∧ H gl = some (.lst (xs ++ [.int a, .int b])) ∧ xs.length < sizeLine ∧
  Q .non (upd H gl (.lst (xs ++ [.int (if hd = "plus" then Int.fmod (a + b) 1000 else Int.fmod (a - b) 1000)])))
abbrev sComb : Stmt := inClass (top 28) 5
theorem scComb : FnScope ["self", "head", "second", "first"] ["self", "head"] (defScope sComb) := ⟨rfl, rfl, rfl, by decide +kernel, rfl, by decide +kernel, by decide +kernel⟩
theorem ok_comb (T : TxR K mg CA CS C) {f g : Addr} {fd gd : FuncData} (F : Fun K "combine" "Running.combine" sComb f fd) (Gcombined : FnOk P w K mg base CX0 1 g gd ["head", "first", "second"] spCombd) (Rcombined : Ref K mg "combined" g gd ["head", "first", "second"]) : FnOk P w K mg base CX0 2 f fd ["self", "head"] (spComb C) := by
  refine F.ok scComb (fun vs H Q E h => ?_) (fun cdv A outer s H vs Q E hr h => ?_)
  · obtain ⟨p, dx, gl, r, hd, xs, a, b, rfl, _⟩ := h
    rfl
  obtain ⟨p, dx, gl, r, hd, xs, a, b, rfl, hp, hg, hL, hz, q⟩ := h
  refine ⟨_, pss_cons (ps_set (i := 2) scComb.nd rfl (Or.inl rfl) (pe_bm0 PySem.F.plainAttrs_list PySem.F.slot_list_pop PySem.F.type_list_pop mt_pop (pe_fld (pv 0) rfl)))
    (pss_cons (ps_set (i := 3) scComb.nd rfl (Or.inl rfl) (pe_bm0 PySem.F.plainAttrs_list PySem.F.slot_list_pop PySem.F.type_list_pop mt_pop (pe_fld (pv 0) rfl)))
    (pss_one (ps_expr (pe_bm PySem.F.plainAttrs_list PySem.F.slot_list_append PySem.F.type_list_append mt_append (pe_fld (pv 0) rfl) (pa_cons (pe_call Gcombined (hr.mono (by omega)) rfl Rcombined.m Rcombined.k Rcombined.b .nil pass0 (pa_cons (pv 1) (pa_cons (pv 3) (pa_cons (pv 2) pa_nil)))) pa_nil))))), ?_⟩
  have hgl : (fsR r).lookup ("got" : Str) = some (.ref gl) := by rw [l_got, hg]
  have npg : p ≠ gl := ne_of hp hL (by intro q; cases q)
  have hL1 : H gl = some (.lst ((xs ++ [.int a]) ++ [.int b])) := by rw [hL, List.append_assoc]; rfl
  refine ⟨_, rfl, p, C, dx, _, _, rfl, hp, T.clR, T.rGot, hgl, .inl ⟨rfl, _, SqL.of hL1⟩, gl, _, _, rfl, rfl, hL1, lastV, ?_⟩
  rw [dropV]
  refine ⟨_, rfl, p, C, dx, _, _, rfl, by rw [upd_ne npg]; exact hp, T.clR, T.rGot, hgl, .inl ⟨rfl, _, SqL.of upd_same⟩, gl, _, _, rfl, rfl, upd_same, lastV, ?_⟩
  rw [dropV, upd_upd]
  refine ⟨_, rfl, p, C, dx, _, _, rfl, by rw [upd_ne npg]; exact hp, T.clR, T.rGot, hgl, .inl ⟨rfl, _, SqL.of upd_same⟩, _, rfl, _, rfl, _, rfl, hd, a, b, rfl, gl, _, _, rfl, rfl, upd_same, hz, ?_⟩
  rw [upd_upd]
  exact q
end
end KB

namespace KB
open PySem L2 HT

section
variable {P : Program} {w : World} {K : PySem.W.Frag} {mg : Str → Option Value} {base : Heap} {CA CS C : Addr}
theorem max_eq (i j : Int) : (if j > i then j else i) = max i j := by
  rw [Int.max_def]
  by_cases c : j > i
  · rw [if_pos c, if_pos (by omega)]
  · rw [if_neg c]
    by_cases e : i ≤ j
    · rw [if_pos e]
      omega
    · rw [if_neg e]
theorem big {n : Nat} (h : n ≤ 1000000) : n < sizeLine := Nat.lt_of_le_of_lt h (by decide)
/-! ### ask -/
def spAskM (CA CS C : Addr) : Sp := fun vs H Q _ => ∃ (H0 : Hp) (es : List Er) (hd : Str → Option Nat) (sz : Nat) (p : Addr) (c : Cf) (d : Ad) (f : Str) (nb : Addr) (ns : List Int) (wt : Int), vs = [.ref p, .str f, .ref nb, .int wt] ∧ RunAt CA CS C H0 H es sz p c d ∧
  c.fin = .no ∧ EsOk es hd ∧ hd f = some ns.length ∧ H nb = some (.tup (ns.map V.int)) ∧ sz + 4 ≤ 1000000 ∧ d.sa.length + 4 ≤ 1000000 ∧ 4 ≤ sz ∧ ∀ H' d', RunAt CA CS C H0 H' es (sz + 1) p (askC es c f ns wt) d' → Q .non H'
abbrev sAskM : Stmt := inClass (top 28) 2
theorem scAskM : FnScope ["self", "f", "numbers", "waiting", "names", "body", "asking"] ["self", "f", "numbers", "waiting"] (defScope sAskM) := ⟨rfl, rfl, rfl, by decide +kernel, rfl, by decide +kernel, by decide +kernel⟩
theorem ok_askM (T : Txt K mg) (X : TxR K mg CA CS C) {f fA fS : Addr} {fd fdA fdS : FuncData} (F : Fun K "ask" "Running.ask" sAskM f fd) (MA : Mk K CA fA) (FA : Fun K "__init__" "Asking.__init__" sAskI fA fdA) (bA : Binds K fdA ["self", "words", "waiting"] [])
    (MS : Mk K CS fS) (FS : Fun K "__init__" "Step.__init__" sStepI fS fdS) (bS : Binds K fdS ["self", "term", "asking", "led", "last"] []) : FnOk P w K mg base CX0 3 f fd ["self", "f", "numbers", "waiting"] (spAskM CA CS C) := by
  have GA : FnOk P w K mg base CX0 1 fA fdA ["self", "words", "waiting"] (spAskI CA) := ok_askI X FA
  have GS : FnOk P w K mg base CX0 1 fS fdS ["self", "term", "asking", "led", "last"] (spStepI CS) := ok_stepI X FS
  refine F.ok scAskM (fun vs H Q E h => ?_) (fun cdv A outer s H vs Q E hr h => ?_)
  · obtain ⟨H0, es, hd, sz, p, c, d, f, nb, ns, wt, rfl, _⟩ := h
    rfl
  obtain ⟨H0, es, hd, sz, p, c, d, f, nb, ns, wt, rfl, R, hno, E0, hf, hnb, hz, hsa, hz4, q⟩ := h
  refine ⟨_, pss_cons (ps_if (pt_cmpR op_eq (pe_fld (pv 0) rfl) (pe_fld (pv 0) rfl) (nomark _)) (pss_cons (ps_fld (pv 0) (pe_tup (pa_cons pe_str pa_nil)) rfl) (pss_one ps_retN)) pss_nil)
    (pss_cons (ps_fldaug (pv 0) pe_int in_add)
    (pss_cons (ps_expr (pe_bm PySem.F.plainAttrs_list PySem.F.slot_list_append PySem.F.type_list_append mt_append (pe_fld (pv 0) rfl) (pa_cons (pe_tup (pa_cons pe_str (pa_cons (pv 1) (pa_cons (pv 2) pa_nil)))) pa_nil)))
    (pss_cons (ps_fld (pv 0) (pe_callB (call_max2 rfl) (by rfl) T.m_max (by decide +kernel) (pa_cons (pe_fld (pv 0) rfl) (pa_cons (pv 3) pa_nil))) rfl)
    (pss_cons (ps_asg (pe_dget (hu_of hr) (pe_fld (pv 0) rfl) (pv 1) (fun _ _ => rfl)) (pg_tup rfl (pgs_cons (pg_name (i := 4) scAskM.nd rfl (Or.inl rfl)) (pgs_cons (pg_name (i := 5) scAskM.nd rfl (Or.inl rfl)) pgs_nil))))
    (pss_cons (ps_set (i := 6) scAskM.nd rfl (Or.inl rfl) (pe_make MA GA (hr.mono (by omega)) rfl X.mgA bA .nil pass0 (pa_cons (pe_dictZip rfl T.m_dict rfl X.zip_ (pa_cons (pv 4) (pa_cons (pv 2) pa_nil))) (pa_cons (pv 3) pa_nil))))
    (pss_one (ps_expr (pe_bm PySem.F.plainAttrs_list PySem.F.slot_list_append PySem.F.type_list_append mt_append (pe_fld (pv 0) rfl) (pa_cons (pe_make MS GS (hr.mono (by omega)) rfl X.mgS bS .nil pass0 (pa_cons (pv 5) (pa_cons (pv 6) (pa_cons pe_bl (pa_cons pe_bl pa_nil))))) pa_nil))))))))), ?_⟩
  refine ⟨_, rfl, p, C, _, _, _, rfl, R.ob, X.clR, X.rAsked, l_asked _, _, rfl, p, C, _, _, _, rfl, R.ob, X.clR, X.rMost, l_most _, rfl, _, rfl, ?_⟩
  by_cases ha : c.asked = c.most
  · refine itT (decide_eq_true (by show V.int (c.asked : Int) = V.int (c.most : Int); rw [ha])) ⟨by show 1 ≤ sizeLine; decide, fun t ht => ?_⟩
    have R1 := R.mono (same_new ht (.tup [.str "long"])) (Nat.le_succ sz)
    refine ⟨_, rfl, p, C, _, _, rfl, R1.ob, X.clR, X.rEnd, (by show 9 < 1000; decide), ?_⟩
    rw [r_end]
    refine q _ _ (RunAt.putOb R1 (c' := askC es c f ns wt) (v := .ref t) (dx' := d.dx) ?_ ?_ ?_ ?_ ?_ ?_)
    all_goals unfold askC; rw [if_pos ha]
    · exact ⟨t, rfl, upd_same⟩
    · rfl
  refine itF (decide_eq_false fun z => ha (by have := V.int.inj (show V.int (c.asked : Int) = V.int (c.most : Int) from z); omega)) ?_
  -- self.asked += 1
  refine ⟨_, rfl, p, C, _, _, _, rfl, R.ob, X.clR, X.rAsked, l_asked _, _, _, rfl, rfl, _, _, R.ob, (by show 9 < 1000; decide), ?_⟩
  rw [r_asked]
  obtain ⟨e, he1, he2, he3, he4, he5, he6, he7⟩ := E0.found hf
  have R1 := RunAt.putOb R (c' := { c with asked := c.asked + 1 }) (v := d.ev) (dx' := d.dx) (r := { rv c d with asked := .int ((c.asked : Int) + 1) }) R.ev (by show _ = RV.mk _ _ _ _ _ _ _ _ _; rfl) rfl rfl rfl rfl
  have nb1 : upd H p (.ins C d.dx (fsR { rv c d with asked := .int ((c.asked : Int) + 1) })) nb = some (.tup (ns.map V.int)) := up_other hnb R.ob (by intro q; cases q) hnb
  generalize upd H p (.ins C d.dx (fsR { rv c d with asked := .int ((c.asked : Int) + 1) })) = H1 at R1 nb1 ⊢
  -- self.trail.append(("ask", f, numbers))
  refine ⟨_, rfl, p, C, _, _, _, rfl, R1.ob, X.clR, X.rTrail, l_trail _, .inl ⟨rfl, _, SqL.of R1.tr⟩, _, rfl, _, rfl, by show 3 ≤ sizeLine; decide, fun t ht => ?_⟩
  have s1 := same_new ht (.tup [.str "ask", .str f, .ref nb])
  have R2 := R1.mono s1 (Nat.le_refl sz)
  refine ⟨d.tl, _, _, rfl, rfl, R2.tr, ?_, ?_⟩
  · have := R2.te.len
    rw [this]
    exact big (by have := R2.tz; omega)
  have R3 := R2.putTrail (e := .ask f ns) (v := .ref t) (sz' := sz + 1) (Nat.le_refl _) ⟨t, nb, rfl, upd_same, s1 _ _ nb1⟩
  have nb3 : upd (upd H1 t (.tup [.str "ask", .str f, .ref nb])) d.tl (.lst (d.tv ++ [.ref t])) nb = some (.tup (ns.map V.int)) := up_other (s1 _ _ nb1) R2.tr (by intro q; cases q) (s1 _ _ nb1)
  generalize upd (upd H1 t (.tup [.str "ask", .str f, .ref nb])) d.tl (.lst (d.tv ++ [.ref t])) = H3 at R3 nb3 ⊢
  -- self.deepest = max(self.deepest, waiting)
  refine ⟨_, rfl, p, C, _, _, _, rfl, R3.ob, X.clR, X.rDeep, l_deep _, _, rfl, _, _, rfl, _, rfl, p, C, _, _, rfl, R3.ob, X.clR, X.rDeep, (by show 9 < 1000; decide), ?_⟩
  rw [r_deep, max_eq]
  have R4 : RunAt CA CS C H0 (upd H3 p (.ins C d.dx (fsR { rv { c with asked := c.asked + 1, trail := c.trail ++ [.ask f ns] } { d with tv := d.tv ++ [.ref t] } with deepest := .int (max c.deepest wt) }))) es (sz + 1) p
      ⟨c.most, c.asked + 1, c.trail ++ [.ask f ns], c.fin, max c.deepest wt, c.left, c.steps, c.got, c.asks⟩ ⟨d.dx, d.ed, d.tl, d.sl, d.gl, d.ev, d.tv ++ [.ref t], d.sa, d.aa⟩ :=
    RunAt.putOb R3 (c' := ⟨c.most, c.asked + 1, c.trail ++ [.ask f ns], c.fin, max c.deepest wt, c.left, c.steps, c.got, c.asks⟩) (v := d.ev) (dx' := d.dx) R3.ev (by show _ = RV.mk _ _ _ _ _ _ _ _ _; rfl) rfl rfl rfl rfl
  have nb4 := up_other (o := .ins C d.dx (fsR { rv { c with asked := c.asked + 1, trail := c.trail ++ [.ask f ns] } { d with tv := d.tv ++ [.ref t] } with deepest := .int (max c.deepest wt) })) nb3 R3.ob (by intro q; cases q) nb3
  revert R4 nb4
  generalize upd H3 p (.ins C d.dx (fsR { rv { c with asked := c.asked + 1, trail := c.trail ++ [.ask f ns] } { d with tv := d.tv ++ [.ref t] } with deepest := .int (max c.deepest wt) })) = H4
  intro R4 nb4
  -- names, body = self.errands[f]
  obtain ⟨kvs, hk, hall⟩ := R4.er
  obtain ⟨qa, ra, ba, g1, g2, g3, g4⟩ := hall e he2
  rw [he3] at g1
  have dg : DGet H4 d.ed (.str f) (some (.ref qa)) := by
    have := DGet.k (k := (Sum.inr f : Key)) hk
    rw [g1] at this
    exact this
  refine ⟨_, rfl, p, C, _, _, _, rfl, R4.ob, X.clR, X.rErrands, l_errands _, _, rfl, d.ed, _, rfl, dg, qa, _, rfl, SqT.of g2, rfl, _, _, rfl, _, _, rfl, rfl, ?_⟩
  -- asking = Asking(dict(zip(names, numbers)), waiting)
  have en : (e.2.1.map (Sum.inr : Str → Key)).map kV = e.2.1.map V.str := by rw [List.map_map]; rfl
  have g3' : H4 ra = some (.tup ((e.2.1.map (Sum.inr : Str → Key)).map kV)) := by rw [en]; exact g3
  refine ⟨_, rfl, _, rfl, ra, nb, _, _, rfl, SqT.of g3', SqT.of nb4, by rw [List.length_map, List.length_map]; exact he4, fun wa hwa => ⟨_, rfl, fun x dx nx ndx nex => ⟨x, dx, _, _, rfl, upd_same, rfl, ?_⟩⟩⟩
  have hw0 : upd H4 wa (.dK (mergeK [] ((e.2.1.map Sum.inr).zip (ns.map V.int)))) wa = some (.dK (mergeK [] ((e.2.1.map Sum.inr).zip (ns.map V.int)))) := upd_same
  have sA : Same H4 (upd H4 wa (.dK (mergeK [] ((e.2.1.map Sum.inr).zip (ns.map V.int))))) := same_new hwa _
  revert nx ndx hw0 sA
  generalize upd H4 wa (.dK (mergeK [] ((e.2.1.map Sum.inr).zip (ns.map V.int)))) = H5
  intro nx ndx hw0 sA
  rw [upd_upd]
  have sB : Same H5 (upd (upd H5 dx (.own x)) x (.ins CA dx (fsA (.ref wa) (.int wt)))) := fun b o hb => by
    rw [upd_ne (ne_of_none hb nx), upd_ne (ne_of_none hb ndx)]
    exact hb
  have hx : upd (upd H5 dx (.own x)) x (.ins CA dx (fsA (.ref wa) (.int wt))) x = some (.ins CA dx (fsA (.ref wa) (.int wt))) := upd_same
  revert hx sB
  generalize upd (upd H5 dx (.own x)) x (.ins CA dx (fsA (.ref wa) (.int wt))) = H6
  intro sB hx
  have sAB := sA.trans sB
  have un : e.2.1.Nodup := (List.nodup_append.mp (E0.er e he2).un).1
  have R6 : RunAt CA CS C H0 H6 es (sz + 1) p ⟨c.most, c.asked + 1, c.trail ++ [.ask f ns], c.fin, max c.deepest wt, c.left, c.steps, c.got, c.asks ++ [(envOf e.2.1 ns, wt)]⟩ ⟨d.dx, d.ed, d.tl, d.sl, d.gl, d.ev, d.tv ++ [.ref t], d.sa, d.aa ++ [(x, wa)]⟩ := (R4.mono sAB (Nat.le_refl _)).putAsk (e := (envOf e.2.1 ns, wt)) (k := (x, wa))
    ⟨⟨dx, _, hx, sB _ _ hw0, Nat.le_trans merge_len (by have := (E0.er e he2).n4; omega), fun z => zip_env0 he4 un z⟩, trivial⟩ (R4.same.free hwa)
    (fun k hk => by obtain ⟨_, kv, h⟩ := R4.ak.both k hk; exact ne_of_none h hwa) (Ne.symm (ne_of_none hk hwa))
  have g4' := g4.mono sAB
  -- self.steps.append(Step(body, asking, True, True))
  refine ⟨_, rfl, p, C, _, _, _, rfl, R6.ob, X.clR, X.rSteps, l_steps _, .inl ⟨rfl, _, SqL.of R6.sl⟩, _, rfl, _, rfl, fun y dy ny ndy ney => ⟨y, dy, _, _, _, _, rfl, upd_same, rfl, ?_⟩⟩
  rw [upd_upd]
  have sC : Same H6 (upd (upd H6 dy (.own y)) y (.ins CS dy (fsS ⟨.ref ba, .ref x, .bl true, .bl true, .bl false⟩))) := fun b o hb => by
    rw [upd_ne (ne_of_none hb ny), upd_ne (ne_of_none hb ndy)]
    exact hb
  have hy : upd (upd H6 dy (.own y)) y (.ins CS dy (fsS ⟨.ref ba, .ref x, .bl true, .bl true, .bl false⟩)) y = some (.ins CS dy (fsS ⟨.ref ba, .ref x, .bl true, .bl true, .bl false⟩)) := upd_same
  revert hy sC
  generalize upd (upd H6 dy (.own y)) y (.ins CS dy (fsS ⟨.ref ba, .ref x, .bl true, .bl true, .bl false⟩)) = H7
  intro sC hy
  have R7 := R6.mono sC (Nat.le_refl _)
  have hk7 : (d.aa ++ [(x, wa)])[c.asks.length]? = some (x, wa) := by
    rw [← R4.ak.len, List.getElem?_append_right (Nat.le_refl _), Nat.sub_self]
    rfl
  have hf7 : H0 y = none := R6.same.free ny
  have nin : y ∉ d.sa := fun hm => by
    obtain ⟨_, _, h⟩ := R6.st.ins y hm
    exact ne_of_none h ny rfl
  refine ⟨d.sl, _, _, rfl, rfl, R7.sl, by rw [List.length_map, List.length_reverse]; exact big (by show d.sa.length ≤ 1000000; omega), ?_⟩
  have el : (y :: d.sa).reverse.map V.ref = d.sa.reverse.map V.ref ++ [V.ref y] := by
    rw [List.reverse_cons, List.map_append]
    rfl
  have R8 : RunAt CA CS C H0 (upd H7 d.sl (.lst (d.sa.reverse.map V.ref ++ [V.ref y]))) es (sz + 1) p ⟨c.most, c.asked + 1, c.trail ++ [.ask f ns], c.fin, max c.deepest wt, c.left, ⟨e.2.2, c.asks.length, true, true, false⟩ :: c.steps, c.got, c.asks ++ [(envOf e.2.1 ns, wt)]⟩
      ⟨d.dx, d.ed, d.tl, d.sl, d.gl, d.ev, d.tv ++ [.ref t], y :: d.sa, d.aa ++ [(x, wa)]⟩ := by
    rw [← el]
    exact R7.putSteps (fs := ⟨e.2.2, c.asks.length, true, true, false⟩ :: c.steps) (sa := y :: d.sa) ⟨⟨dy, ba, (x, wa), hk7, hy, g4'.mono sC⟩, R7.st⟩ (List.nodup_cons.mpr ⟨nin, R7.nd⟩) (fun a ha => by
      rcases List.mem_cons.mp ha with rfl | h
      · exact hf7
      · exact R7.fs a h)
  have ec : askC es c f ns wt = ⟨c.most, c.asked + 1, c.trail ++ [.ask f ns], c.fin, max c.deepest wt, c.left, ⟨e.2.2, c.asks.length, true, true, false⟩ :: c.steps, c.got, c.asks ++ [(envOf e.2.1 ns, wt)]⟩ := by
    unfold askC
    rw [if_neg ha, he1]
  rw [ec] at q
  exact q _ _ R8
end
end KB

namespace KB
open PySem L2 HT

theorem At.parts {H : Hp} {t : Tm} {a : Addr} (h : At H t a) : ∃ xs, Lay H a (hdT t) xs ∧ xs.length = (kidsT t).length ∧ ∀ i, i < xs.length → ∃ b, xs[i]? = some (.ref b) ∧ At H (kid t i) b := by
  cases t with
  | mk hd n k =>
    obtain ⟨ys, l, r⟩ := h
    have e : (Rfs ys).length = n := by
      unfold Rfs
      rw [List.length_ofFn]
    refine ⟨Rfs ys, l, by rw [kids_len, e], fun i hi => ?_⟩
    rw [e] at hi
    refine ⟨ys ⟨i, hi⟩, ?_, ?_⟩
    · unfold Rfs
      rw [List.getElem?_ofFn, dif_pos hi]
    · obtain ⟨h1, h2⟩ := kids_get (kid_eq (t := .mk hd n k) (i := i) (by rw [kids_len]; exact hi))
      rw [h2]
      exact r _
def SoAt (CS : Addr) (H : Hp) (d : Ad) (s : Fr) (a : Addr) : Prop := ∃ dx tb k, d.aa[s.k]? = some k ∧ H a = some (.ins CS dx (fsS ⟨.ref tb, .ref k.1, .bl s.led, .bl s.last, .bl s.begun⟩)) ∧ At H s.t tb
theorem got_rev {g : List Int} {z : Int} : (z :: g).reverse.map V.int = g.reverse.map V.int ++ [V.int z] := by
  rw [List.reverse_cons, List.map_append]
  rfl
theorem sa_rev {g : List Addr} {z : Addr} : (z :: g).reverse.map V.ref = g.reverse.map V.ref ++ [V.ref z] := by
  rw [List.reverse_cons, List.map_append]
  rfl
theorem at3 {x y z u : V} {r : List V} : atI (x :: y :: z :: u :: r) 3 = some u := at_of (j := 3) rfl rfl
section
variable {P : Program} {w : World} {K : PySem.W.Frag} {mg : Str → Option Value} {base : Heap} {CA CS C : Addr}
/-- a new step is put on top -/
theorem RunAt.pushStep {H0 H : Hp} {es : List Er} {sz : Nat} {p : Addr} {c : Cf} {d : Ad} (R : RunAt CA CS C H0 H es sz p c d) {s : Fr} {y dy tb : Addr} {k : Addr × Addr} (ny : H y = none) (ndy : H dy = none) (hk : d.aa[s.k]? = some k) (ht : At H s.t tb) :
    RunAt CA CS C H0 (upd (upd (upd H dy (.own y)) y (.ins CS dy (fsS ⟨.ref tb, .ref k.1, .bl s.led, .bl s.last, .bl s.begun⟩))) d.sl (.lst (d.sa.reverse.map V.ref ++ [V.ref y]))) es sz p { c with steps := s :: c.steps } { d with sa := y :: d.sa } := by
  have sC : Same H (upd (upd H dy (.own y)) y (.ins CS dy (fsS ⟨.ref tb, .ref k.1, .bl s.led, .bl s.last, .bl s.begun⟩))) := fun b o hb => by
    rw [upd_ne (ne_of_none hb ny), upd_ne (ne_of_none hb ndy)]
    exact hb
  have hy : upd (upd H dy (.own y)) y (.ins CS dy (fsS ⟨.ref tb, .ref k.1, .bl s.led, .bl s.last, .bl s.begun⟩)) y = some (.ins CS dy (fsS ⟨.ref tb, .ref k.1, .bl s.led, .bl s.last, .bl s.begun⟩)) := upd_same
  have R7 := R.mono sC (Nat.le_refl _)
  have nin : y ∉ d.sa := fun hm => by
    obtain ⟨_, _, h⟩ := R.st.ins y hm
    exact ne_of_none h ny rfl
  rw [← sa_rev]
  exact R7.putSteps (fs := s :: c.steps) (sa := y :: d.sa) ⟨⟨dy, tb, k, hk, hy, ht.mono sC⟩, R7.st⟩ (List.nodup_cons.mpr ⟨nin, R7.nd⟩) (fun a ha => by
    rcases List.mem_cons.mp ha with rfl | h
    · exact R.same.free ny
    · exact R7.fs a h)
/-! ### let -/
def spLet (CA CS C : Addr) : Sp := fun vs H Q _ => ∃ (H0 : Hp) (es : List Er) (sz : Nat) (p a : Addr) (c : Cf) (d : Ad) (s : Fr) (x : Str), vs = [.ref p, .ref a] ∧ RunAt CA CS C H0 H es sz p c d ∧ SoAt CS H d s a ∧ hdT s.t = .lett x ∧ 1 ≤ c.got.length ∧
  sz + 4 ≤ 1000000 ∧ d.sa.length + 4 ≤ 1000000 ∧ ∀ H' d', RunAt CA CS C H0 H' es (sz + 1) p (finC es c s) d' → Q .non H'
abbrev sLet : Stmt := inClass (top 28) 6
theorem scLet : FnScope ["self", "step"] ["self", "step"] (defScope sLet) := ⟨rfl, rfl, rfl, by decide +kernel, rfl, by decide +kernel, by decide +kernel⟩
theorem ok_let (X : TxR K mg CA CS C) {f fS : Addr} {fd fdS : FuncData} (F : Fun K "let" "Running.let" sLet f fd) (MS : Mk K CS fS) (FS : Fun K "__init__" "Step.__init__" sStepI fS fdS) (bS : Binds K fdS ["self", "term", "asking", "led", "last"] []) :
    FnOk P w K mg base CX0 3 f fd ["self", "step"] (spLet CA CS C) := by
  have GS : FnOk P w K mg base CX0 1 fS fdS ["self", "term", "asking", "led", "last"] (spStepI CS) := ok_stepI X FS
  refine F.ok scLet (fun vs H Q E h => ?_) (fun cdv A outer s H vs Q E hr h => ?_)
  · obtain ⟨H0, es, sz, p, a, c, d, s, x, rfl, _⟩ := h
    rfl
  obtain ⟨H0, es, sz, p, a, c, d, s, x, rfl, R, ⟨dx, tb, k, hk, hs, ht⟩, hh, hg, hz, hsa, q⟩ := h
  refine ⟨_, pss_cons (ps_dput (hu_of hr) (pe_fld (pe_fld (pv 1) rfl) rfl) (pe_ix ix_tup (pe_fld (pv 1) rfl) pe_int (fun _ _ => rfl)) (pe_bm0 PySem.F.plainAttrs_list PySem.F.slot_list_pop PySem.F.type_list_pop mt_pop (pe_fld (pv 0) rfl)) rfl)
    (pss_one (ps_expr (pe_bm PySem.F.plainAttrs_list PySem.F.slot_list_append PySem.F.type_list_append mt_append (pe_fld (pv 0) rfl) (pa_cons (pe_make MS GS (hr.mono (by omega)) rfl X.mgS bS .nil pass0
      (pa_cons (pe_ix ix_tup (pe_fld (pv 1) rfl) pe_int (fun _ _ => rfl)) (pa_cons (pe_fld (pv 1) rfl) (pa_cons (pe_fld (pv 1) rfl) (pa_cons (pe_fld (pv 1) rfl) pa_nil))))) pa_nil)))), ?_⟩
  obtain ⟨z, g, hgg⟩ : ∃ z g, c.got = z :: g := by
    cases h : c.got with
    | nil => rw [h] at hg; cases hg
    | cons z g => exact ⟨z, g, rfl⟩
  obtain ⟨xs, l, hl, hp⟩ := ht.parts
  rw [hh] at l
  obtain ⟨x0, x1, rfl⟩ : ∃ x0 x1, xs = [x0, x1] := by
    have := l.1
    match xs, this with
    | [x0, x1], _ => exact ⟨x0, x1, rfl⟩
  obtain ⟨b1, hb1, ht1⟩ := hp 1 (by show 1 < 2; decide)
  cases (Option.some.inj hb1)
  have hgt := R.gt
  rw [hgg, got_rev] at hgt
  refine ⟨_, rfl, p, C, _, _, _, rfl, R.ob, X.clR, X.rGot, l_got _, .inl ⟨rfl, _, SqL.of hgt⟩, d.gl, _, _, rfl, rfl, hgt, lastV, ?_⟩
  rw [dropV]
  have R1 : RunAt CA CS C H0 (upd H d.gl (.lst (g.reverse.map V.int))) es sz p { c with got := g } d := R.putGot (Nat.le_refl _) (by have := R.gz; rw [hgg] at this; exact Nat.le_of_succ_le this)
  have hs1 := up_other (o := .lst (g.reverse.map V.int)) hs R.gt (by intro q; cases q) hs
  have T1 : TK H (upd H d.gl (.lst (g.reverse.map V.int))) := tk_upd R.gt (by intro xs q; cases q)
  have l1 := T1 _ _ l.2
  have ht1' := ht1.tk T1
  revert R1 hs1 l1 ht1'
  generalize upd H d.gl (.lst (g.reverse.map V.int)) = H1
  intro R1 hs1 l1 ht1'
  obtain ⟨e, he, dk, kvs, ka, kw, kl, kv⟩ := R1.ak.get hk
  refine ⟨_, rfl, a, CS, _, _, _, rfl, hs1, X.clS, X.sAsking, s_asking _, k.1, CA, _, _, _, rfl, ka, X.clA, X.aWords, a_words _ _, _, rfl, a, CS, _, _, _, rfl, hs1, X.clS, X.sTerm, s_term _, tb, _, _, _, rfl, rfl, SqT.of l1, at1,
    k.2, _, rfl, DPut.k (k := (Sum.inr x : Key)) kw (big (by omega)), ?_⟩
  have R2 : RunAt CA CS C H0 (upd H1 k.2 (.dK (putK kvs (Sum.inr x) (.int z)))) es (sz + 1) p ⟨c.most, c.asked, c.trail, c.fin, c.deepest, c.left, c.steps, g, putA c.asks s.k x z⟩ d := R1.putWord (Nat.le_refl _) hk kw
  have hs2 := up_other (o := .dK (putK kvs (Sum.inr x) (.int z))) hs1 kw (by intro q; cases q) hs1
  have T2 : TK H1 (upd H1 k.2 (.dK (putK kvs (Sum.inr x) (.int z)))) := tk_upd kw (by intro xs q; cases q)
  have l2 := T2 _ _ l1
  have ht2 := ht1'.tk T2
  revert R2 hs2 l2 ht2
  generalize upd H1 k.2 (.dK (putK kvs (Sum.inr x) (.int z))) = H2
  intro R2 hs2 l2 ht2
  refine ⟨_, rfl, p, C, _, _, _, rfl, R2.ob, X.clR, X.rSteps, l_steps _, .inl ⟨rfl, _, SqL.of R2.sl⟩, _, rfl, a, CS, _, _, _, rfl, hs2, X.clS, X.sTerm, s_term _, tb, _, _, _, rfl, rfl, SqT.of l2, at3,
    _, rfl, a, CS, _, _, _, rfl, hs2, X.clS, X.sAsking, s_asking _, _, rfl, a, CS, _, _, _, rfl, hs2, X.clS, X.sLed, s_led _, _, rfl, a, CS, _, _, _, rfl, hs2, X.clS, X.sLast, s_last _,
    fun y dy ny ndy ney => ⟨y, dy, _, _, _, _, rfl, upd_same, rfl, ?_⟩⟩
  rw [upd_upd]
  have R3 := R2.pushStep (s := ⟨kid s.t 1, s.k, s.led, s.last, false⟩) ny ndy hk ht2
  have sC : Same H2 (upd (upd H2 dy (.own y)) y (.ins CS dy (fsS ⟨.ref b1, .ref k.1, .bl s.led, .bl s.last, .bl false⟩))) := fun b o hb => by
    rw [upd_ne (ne_of_none hb ny), upd_ne (ne_of_none hb ndy)]
    exact hb
  refine ⟨d.sl, _, _, rfl, rfl, sC _ _ R2.sl, by rw [List.length_map, List.length_reverse]; exact big (by omega), ?_⟩
  have ec : finC es c s = ⟨c.most, c.asked, c.trail, c.fin, c.deepest, c.left, ⟨kid s.t 1, s.k, s.led, s.last, false⟩ :: c.steps, g, putA c.asks s.k x z⟩ := by
    unfold finC
    rw [hh, hgg]
    rfl
  rw [ec] at q
  exact q _ _ R3
end
end KB

namespace KB
open PySem L2 HT

section
variable {P : Program} {w : World} {K : PySem.W.Frag} {mg : Str → Option Value} {base : Heap} {CA CS C : Addr}
/-! ### choose -/
def spCho (CA CS C : Addr) : Sp := fun vs H Q _ => ∃ (H0 : Hp) (es : List Er) (sz : Nat) (p a : Addr) (c : Cf) (d : Ad) (s : Fr), vs = [.ref p, .ref a] ∧ RunAt CA CS C H0 H es sz p c d ∧ SoAt CS H d s a ∧ hdT s.t = .iff ∧ 1 ≤ c.got.length ∧
  sz + 4 ≤ 1000000 ∧ d.sa.length + 4 ≤ 1000000 ∧ ∀ H' d', RunAt CA CS C H0 H' es (sz + 1) p (finC es c s) d' → Q .non H'
abbrev sCho : Stmt := inClass (top 28) 7
theorem scCho : FnScope ["self", "step", "chosen"] ["self", "step"] (defScope sCho) := ⟨rfl, rfl, rfl, by decide +kernel, rfl, by decide +kernel, by decide +kernel⟩
theorem ok_cho (X : TxR K mg CA CS C) {f fS : Addr} {fd fdS : FuncData} (F : Fun K "choose" "Running.choose" sCho f fd) (MS : Mk K CS fS) (FS : Fun K "__init__" "Step.__init__" sStepI fS fdS) (bS : Binds K fdS ["self", "term", "asking", "led", "last"] []) :
    FnOk P w K mg base CX0 3 f fd ["self", "step"] (spCho CA CS C) := by
  have GS : FnOk P w K mg base CX0 1 fS fdS ["self", "term", "asking", "led", "last"] (spStepI CS) := ok_stepI X FS
  refine F.ok scCho (fun vs H Q E h => ?_) (fun cdv A outer s H vs Q E hr h => ?_)
  · obtain ⟨H0, es, sz, p, a, c, d, s, rfl, _⟩ := h
    rfl
  obtain ⟨H0, es, sz, p, a, c, d, s, rfl, R, ⟨dx, tb, k, hk, hs, ht⟩, hh, hg, hz, hsa, q⟩ := h
  refine ⟨_, pss_cons (ps_if (pt_not (pt_truth (pe_fld (pv 1) rfl) (by intro _; rfl))) (pss_one (ps_fldaug (pv 0) pe_int in_add)) pss_nil)
    (pss_cons (ps_set (i := 2) scCho.nd rfl (Or.inl rfl) (pe_ifExp (pt_cmpR op_eq (pe_bm0 PySem.F.plainAttrs_list PySem.F.slot_list_pop PySem.F.type_list_pop mt_pop (pe_fld (pv 0) rfl)) pe_int (nomark _)) (pe_ix ix_tup (pe_fld (pv 1) rfl) pe_int (fun _ _ => rfl)) (pe_ix ix_tup (pe_fld (pv 1) rfl) pe_int (fun _ _ => rfl))))
    (pss_one (ps_expr (pe_bm PySem.F.plainAttrs_list PySem.F.slot_list_append PySem.F.type_list_append mt_append (pe_fld (pv 0) rfl) (pa_cons (pe_make MS GS (hr.mono (by omega)) rfl X.mgS bS .nil pass0
      (pa_cons (pv 2) (pa_cons (pe_fld (pv 1) rfl) (pa_cons pe_bl (pa_cons (pe_fld (pv 1) rfl) pa_nil))))) pa_nil))))), ?_⟩
  obtain ⟨z, g, hgg⟩ : ∃ z g, c.got = z :: g := by
    cases h : c.got with
    | nil => rw [h] at hg; cases hg
    | cons z g => exact ⟨z, g, rfl⟩
  obtain ⟨xs, l, hl, hp⟩ := ht.parts
  rw [hh] at l
  obtain ⟨x0, x1, x2, rfl⟩ : ∃ x0 x1 x2, xs = [x0, x1, x2] := by
    have := l.1
    match xs, this with
    | [x0, x1, x2], _ => exact ⟨x0, x1, x2, rfl⟩
  obtain ⟨b1, hb1, ht1⟩ := hp 1 (by show 1 < 3; decide)
  cases (Option.some.inj hb1)
  obtain ⟨b2, hb2, ht2⟩ := hp 2 (by show 2 < 3; decide)
  cases (Option.some.inj hb2)
  have l := l.2
  refine ⟨_, rfl, a, CS, _, _, _, rfl, hs, X.clS, X.sLed, s_led _, s.led, rfl, ?_⟩
  have hl' : leftC c s = if s.led = true then c.left else c.left + 1 := rfl
  cases hled : s.led
  · refine itT rfl ⟨_, rfl, p, C, _, _, _, rfl, R.ob, X.clR, X.rLeft, l_left _, _, _, rfl, rfl, _, _, R.ob, (by show 9 < 1000; decide), ?_⟩
    rw [r_left]
    rw [hled, if_neg Bool.false_ne_true] at hl'
    have R1 : RunAt CA CS C H0 (upd H p (.ins C d.dx (fsR { rv c d with left := .int (c.left + 1) }))) es sz p ⟨c.most, c.asked, c.trail, c.fin, c.deepest, leftC c s, c.steps, c.got, c.asks⟩ d :=
      RunAt.putOb R (c' := ⟨c.most, c.asked, c.trail, c.fin, c.deepest, leftC c s, c.steps, c.got, c.asks⟩) (v := d.ev) (dx' := d.dx) R.ev (by rw [hl']; rfl) rfl rfl rfl rfl
    have hs1 := up_other (o := .ins C d.dx (fsR { rv c d with left := .int (c.left + 1) })) hs R.ob (by intro q; cases q) hs
    have T1 : TK H (upd H p (.ins C d.dx (fsR { rv c d with left := .int (c.left + 1) }))) := tk_upd R.ob (by intro xs q; cases q)
    have l1 := T1 _ _ l
    have ht1' := ht1.tk T1
    have ht2' := ht2.tk T1
    revert R1 hs1 l1 ht1' ht2'
    generalize upd H p (.ins C d.dx (fsR { rv c d with left := .int (c.left + 1) })) = H1
    intro R1 hs1 l1 ht1' ht2'
    have hgt1 := R1.gt
    have hgt1 : H1 d.gl = some (.lst (g.reverse.map V.int ++ [V.int z])) := by
      rw [← got_rev, ← hgg]
      exact hgt1
    refine ⟨_, rfl, p, C, _, _, _, rfl, R1.ob, X.clR, X.rGot, l_got _, .inl ⟨rfl, _, SqL.of hgt1⟩, d.gl, _, _, rfl, rfl, hgt1, lastV, ?_⟩
    rw [dropV]
    have R2 : RunAt CA CS C H0 (upd H1 d.gl (.lst (g.reverse.map V.int))) es (sz + 1) p ⟨c.most, c.asked, c.trail, c.fin, c.deepest, leftC c s, c.steps, g, c.asks⟩ d :=
      R1.putGot (Nat.le_succ _) (by have hq : c.got.length ≤ sz := R1.gz; rw [hgg] at hq; exact Nat.le_trans (Nat.le_of_succ_le hq) (Nat.le_succ _))
    have hs2 := up_other (o := .lst (g.reverse.map V.int)) hs1 hgt1 (by intro q; cases q) hs1
    have T2 : TK H1 (upd H1 d.gl (.lst (g.reverse.map V.int))) := tk_upd hgt1 (by intro xs q; cases q)
    have l2 := T2 _ _ l1
    have hu1 := ht1'.tk T2
    have hu2 := ht2'.tk T2
    revert R2 hs2 l2 hu1 hu2
    generalize upd H1 d.gl (.lst (g.reverse.map V.int)) = H2
    intro R2 hs2 l2 hu1 hu2
    refine ⟨rfl, _, rfl, ?_⟩
    by_cases cz : z = 0
    · refine itT (decide_eq_true (congrArg V.int cz)) ⟨_, rfl, a, CS, _, _, _, rfl, hs2, X.clS, X.sTerm, s_term _, tb, _, _, _, rfl, rfl, SqT.of l2, at3, ?_⟩
      refine ⟨_, rfl, p, C, _, _, _, rfl, R2.ob, X.clR, X.rSteps, l_steps _, .inl ⟨rfl, _, SqL.of R2.sl⟩, _, rfl, _, rfl, a, CS, _, _, _, rfl, hs2, X.clS, X.sAsking, s_asking _, _, rfl, a, CS, _, _, _, rfl, hs2, X.clS, X.sLast, s_last _,
        fun y dy ny ndy ney => ⟨y, dy, _, _, _, _, rfl, upd_same, rfl, ?_⟩⟩
      rw [upd_upd]
      have R3 := R2.pushStep (s := ⟨kid s.t 2, s.k, true, s.last, false⟩) ny ndy hk hu2
      have sC : Same H2 (upd (upd H2 dy (.own y)) y (.ins CS dy (fsS ⟨.ref b2, .ref k.1, .bl true, .bl s.last, .bl false⟩))) := fun b o hb => by
        rw [upd_ne (ne_of_none hb ny), upd_ne (ne_of_none hb ndy)]
        exact hb
      refine ⟨d.sl, _, _, rfl, rfl, sC _ _ R2.sl, by rw [List.length_map, List.length_reverse]; exact big (by omega), ?_⟩
      have ec : finC es c s = ⟨c.most, c.asked, c.trail, c.fin, c.deepest, leftC c s, ⟨kid s.t 2, s.k, true, s.last, false⟩ :: c.steps, g, c.asks⟩ := by
        unfold finC
        rw [hh, hgg]
        show Cf.mk _ _ _ _ _ _ (⟨if z = 0 then kid s.t 2 else kid s.t 1, s.k, true, s.last, false⟩ :: c.steps) _ _ = _
        rw [if_pos cz]
        rfl
      rw [ec] at q
      exact q _ _ R3
    · refine itF (decide_eq_false fun y => cz (V.int.inj y)) ⟨_, rfl, a, CS, _, _, _, rfl, hs2, X.clS, X.sTerm, s_term _, tb, _, _, _, rfl, rfl, SqT.of l2, at2, ?_⟩
      refine ⟨_, rfl, p, C, _, _, _, rfl, R2.ob, X.clR, X.rSteps, l_steps _, .inl ⟨rfl, _, SqL.of R2.sl⟩, _, rfl, _, rfl, a, CS, _, _, _, rfl, hs2, X.clS, X.sAsking, s_asking _, _, rfl, a, CS, _, _, _, rfl, hs2, X.clS, X.sLast, s_last _,
        fun y dy ny ndy ney => ⟨y, dy, _, _, _, _, rfl, upd_same, rfl, ?_⟩⟩
      rw [upd_upd]
      have R3 := R2.pushStep (s := ⟨kid s.t 1, s.k, true, s.last, false⟩) ny ndy hk hu1
      have sC : Same H2 (upd (upd H2 dy (.own y)) y (.ins CS dy (fsS ⟨.ref b1, .ref k.1, .bl true, .bl s.last, .bl false⟩))) := fun b o hb => by
        rw [upd_ne (ne_of_none hb ny), upd_ne (ne_of_none hb ndy)]
        exact hb
      refine ⟨d.sl, _, _, rfl, rfl, sC _ _ R2.sl, by rw [List.length_map, List.length_reverse]; exact big (by omega), ?_⟩
      have ec : finC es c s = ⟨c.most, c.asked, c.trail, c.fin, c.deepest, leftC c s, ⟨kid s.t 1, s.k, true, s.last, false⟩ :: c.steps, g, c.asks⟩ := by
        unfold finC
        rw [hh, hgg]
        show Cf.mk _ _ _ _ _ _ (⟨if z = 0 then kid s.t 2 else kid s.t 1, s.k, true, s.last, false⟩ :: c.steps) _ _ = _
        rw [if_neg cz]
        rfl
      rw [ec] at q
      exact q _ _ R3
  · refine itF rfl ?_
    rw [hled, if_pos rfl] at hl'
    have R1 : RunAt CA CS C H0 H es sz p ⟨c.most, c.asked, c.trail, c.fin, c.deepest, leftC c s, c.steps, c.got, c.asks⟩ d := by rw [hl']; exact R
    have hs1 := hs
    have l1 := l
    have ht1' := ht1
    have ht2' := ht2
    generalize H = H1 at R1 hs1 l1 ht1' ht2' ⊢
    have hgt1 := R1.gt
    have hgt1 : H1 d.gl = some (.lst (g.reverse.map V.int ++ [V.int z])) := by
      rw [← got_rev, ← hgg]
      exact hgt1
    refine ⟨_, rfl, p, C, _, _, _, rfl, R1.ob, X.clR, X.rGot, l_got _, .inl ⟨rfl, _, SqL.of hgt1⟩, d.gl, _, _, rfl, rfl, hgt1, lastV, ?_⟩
    rw [dropV]
    have R2 : RunAt CA CS C H0 (upd H1 d.gl (.lst (g.reverse.map V.int))) es (sz + 1) p ⟨c.most, c.asked, c.trail, c.fin, c.deepest, leftC c s, c.steps, g, c.asks⟩ d :=
      R1.putGot (Nat.le_succ _) (by have hq : c.got.length ≤ sz := R1.gz; rw [hgg] at hq; exact Nat.le_trans (Nat.le_of_succ_le hq) (Nat.le_succ _))
    have hs2 := up_other (o := .lst (g.reverse.map V.int)) hs1 hgt1 (by intro q; cases q) hs1
    have T2 : TK H1 (upd H1 d.gl (.lst (g.reverse.map V.int))) := tk_upd hgt1 (by intro xs q; cases q)
    have l2 := T2 _ _ l1
    have hu1 := ht1'.tk T2
    have hu2 := ht2'.tk T2
    revert R2 hs2 l2 hu1 hu2
    generalize upd H1 d.gl (.lst (g.reverse.map V.int)) = H2
    intro R2 hs2 l2 hu1 hu2
    refine ⟨rfl, _, rfl, ?_⟩
    by_cases cz : z = 0
    · refine itT (decide_eq_true (congrArg V.int cz)) ⟨_, rfl, a, CS, _, _, _, rfl, hs2, X.clS, X.sTerm, s_term _, tb, _, _, _, rfl, rfl, SqT.of l2, at3, ?_⟩
      refine ⟨_, rfl, p, C, _, _, _, rfl, R2.ob, X.clR, X.rSteps, l_steps _, .inl ⟨rfl, _, SqL.of R2.sl⟩, _, rfl, _, rfl, a, CS, _, _, _, rfl, hs2, X.clS, X.sAsking, s_asking _, _, rfl, a, CS, _, _, _, rfl, hs2, X.clS, X.sLast, s_last _,
        fun y dy ny ndy ney => ⟨y, dy, _, _, _, _, rfl, upd_same, rfl, ?_⟩⟩
      rw [upd_upd]
      have R3 := R2.pushStep (s := ⟨kid s.t 2, s.k, true, s.last, false⟩) ny ndy hk hu2
      have sC : Same H2 (upd (upd H2 dy (.own y)) y (.ins CS dy (fsS ⟨.ref b2, .ref k.1, .bl true, .bl s.last, .bl false⟩))) := fun b o hb => by
        rw [upd_ne (ne_of_none hb ny), upd_ne (ne_of_none hb ndy)]
        exact hb
      refine ⟨d.sl, _, _, rfl, rfl, sC _ _ R2.sl, by rw [List.length_map, List.length_reverse]; exact big (by omega), ?_⟩
      have ec : finC es c s = ⟨c.most, c.asked, c.trail, c.fin, c.deepest, leftC c s, ⟨kid s.t 2, s.k, true, s.last, false⟩ :: c.steps, g, c.asks⟩ := by
        unfold finC
        rw [hh, hgg]
        show Cf.mk _ _ _ _ _ _ (⟨if z = 0 then kid s.t 2 else kid s.t 1, s.k, true, s.last, false⟩ :: c.steps) _ _ = _
        rw [if_pos cz]
        rfl
      rw [ec] at q
      exact q _ _ R3
    · refine itF (decide_eq_false fun y => cz (V.int.inj y)) ⟨_, rfl, a, CS, _, _, _, rfl, hs2, X.clS, X.sTerm, s_term _, tb, _, _, _, rfl, rfl, SqT.of l2, at2, ?_⟩
      refine ⟨_, rfl, p, C, _, _, _, rfl, R2.ob, X.clR, X.rSteps, l_steps _, .inl ⟨rfl, _, SqL.of R2.sl⟩, _, rfl, _, rfl, a, CS, _, _, _, rfl, hs2, X.clS, X.sAsking, s_asking _, _, rfl, a, CS, _, _, _, rfl, hs2, X.clS, X.sLast, s_last _,
        fun y dy ny ndy ney => ⟨y, dy, _, _, _, _, rfl, upd_same, rfl, ?_⟩⟩
      rw [upd_upd]
      have R3 := R2.pushStep (s := ⟨kid s.t 1, s.k, true, s.last, false⟩) ny ndy hk hu1
      have sC : Same H2 (upd (upd H2 dy (.own y)) y (.ins CS dy (fsS ⟨.ref b1, .ref k.1, .bl true, .bl s.last, .bl false⟩))) := fun b o hb => by
        rw [upd_ne (ne_of_none hb ny), upd_ne (ne_of_none hb ndy)]
        exact hb
      refine ⟨d.sl, _, _, rfl, rfl, sC _ _ R2.sl, by rw [List.length_map, List.length_reverse]; exact big (by omega), ?_⟩
      have ec : finC es c s = ⟨c.most, c.asked, c.trail, c.fin, c.deepest, leftC c s, ⟨kid s.t 1, s.k, true, s.last, false⟩ :: c.steps, g, c.asks⟩ := by
        unfold finC
        rw [hh, hgg]
        show Cf.mk _ _ _ _ _ _ (⟨if z = 0 then kid s.t 2 else kid s.t 1, s.k, true, s.last, false⟩ :: c.steps) _ _ = _
        rw [if_neg cz]
        rfl
      rw [ec] at q
      exact q _ _ R3
end
end KB

namespace KB
open PySem L2 HT

theorem got_drop {g : List Int} {n : Nat} (h : n ≤ g.length) : (g.reverse.map V.int).drop (g.length - n) = (g.take n).reverse.map V.int := by
  rw [← List.map_drop, List.drop_reverse, show g.length - (g.length - n) = n by omega]
theorem got_take {g : List Int} {n : Nat} (h : n ≤ g.length) : (g.reverse.map V.int).take (g.length - n) = (g.drop n).reverse.map V.int := by
  rw [← List.map_take, List.take_reverse, show g.length - (g.length - n) = n by omega]
section
variable {P : Program} {w : World} {K : PySem.W.Frag} {mg : Str → Option Value} {base : Heap} {CA CS C : Addr}
/-! ### ask_from -/
/-! ### last_taken -/
def spLast : Sp := fun vs H Q _ => ∃ (gl : Addr) (xs : List V) (n : Nat), vs = [.ref gl, .int (n : Int)] ∧ H gl = some (.lst xs) ∧ n ≤ xs.length ∧
  ∀ H2 v, Same H H2 → H2 v = some (.tup (xs.drop (xs.length - n))) → Q (.ref v) (upd H2 gl (.lst (xs.take (xs.length - n))))
abbrev slast_taken : Stmt := top 5
theorem sclast_taken : FnScope ["got", "many", "first", "taken"] ["got", "many"] (defScope slast_taken) := ⟨rfl, rfl, rfl, by decide +kernel, rfl, by decide +kernel, by decide +kernel⟩
theorem ok_last (T : Txt K mg) {f : Addr} {fd : FuncData} (F : Fun K "last_taken" "last_taken" slast_taken f fd) : FnOk P w K mg base CX0 1 f fd ["got", "many"] spLast := by
  refine F.ok sclast_taken (fun vs H Q E h => ?_) (fun cdv A outer s H vs Q E hr h => ?_)
  · obtain ⟨gl, xs, n, rfl, _⟩ := h
    rfl
  obtain ⟨gl, xs, n, rfl, hg, hn, q⟩ := h
  refine ⟨_, pss_cons (ps_set (i := 2) sclast_taken.nd rfl (Or.inl rfl) (pe_op op_sub (pe_callB call_len_seq (by rfl) T.m_len PySem.boot_len (pa_cons (pv 0) pa_nil)) (pv 1)))
    (pss_cons (ps_set (i := 3) sclast_taken.nd rfl (Or.inl rfl) (pe_callTy call_tuple_of (by rfl) T.m_tuple (by decide +kernel) (pa_cons (pe_slice sl_list (pv 0) (po_some (pv 2)) po_none) pa_nil)))
    (pss_cons (ps_delFrom (pv 0) (pv 2)) (pss_one (ps_ret (pv 3))))), ?_⟩
  refine ⟨_, rfl, gl, _, rfl, .inl (SqL.of hg), _, rfl, _, _, rfl, rfl, ?_⟩
  have efirst : (xs.length : Int) - (n : Int) = ((xs.length - n : Nat) : Int) := by omega
  refine ⟨_, rfl, _, rfl, _, rfl, gl, _, rfl, SqL.of hg, fun u hu => ⟨u, _, rfl, .inl ⟨SqL.of upd_same, fun v hv => ?_⟩⟩⟩
  have ecut : cutV xs (some ((xs.length : Int) - (n : Int))) none = xs.drop (xs.length - n) := by
    rw [efirst, cut_from (by omega) (by omega), Int.toNat_natCast]
  have sA := (same_new hu (.lst (cutV xs (some ((xs.length : Int) - (n : Int))) none))).trans (same_new hv (.tup (cutV xs (some ((xs.length : Int) - (n : Int))) none)))
  have hv2 : upd (upd H u (.lst (cutV xs (some ((xs.length : Int) - (n : Int))) none))) v (.tup (cutV xs (some ((xs.length : Int) - (n : Int))) none)) v = some (.tup (xs.drop (xs.length - n))) := by
    rw [upd_same, ecut]
  exact ⟨_, rfl, _, rfl, _, rfl, gl, xs, xs.length - n, rfl, congrArg some efirst, sA _ _ hg, Nat.sub_le _ _, _, rfl, q _ _ sA hv2⟩
def spFrom (CA CS C : Addr) : Sp := fun vs H Q _ => ∃ (H0 : Hp) (es : List Er) (hd : Str → Option Nat) (sz : Nat) (p a : Addr) (c : Cf) (d : Ad) (s : Fr) (f : Str), vs = [.ref p, .ref a] ∧ RunAt CA CS C H0 H es sz p c d ∧ SoAt CS H d s a ∧ hdT s.t = .ask f ∧ (kidsT s.t).length ≤ c.got.length ∧
  c.fin = .no ∧ EsOk es hd ∧ hd f = some (kidsT s.t).length ∧ sz + 4 ≤ 1000000 ∧ d.sa.length + 4 ≤ 1000000 ∧ 4 ≤ sz ∧ ∀ H' d', RunAt CA CS C H0 H' es (sz + 1) p (finC es c s) d' → Q .non H'
abbrev sFrom : Stmt := inClass (top 28) 8
theorem scFrom : FnScope ["self", "step", "numbers", "waiting"] ["self", "step"] (defScope sFrom) := ⟨rfl, rfl, rfl, by decide +kernel, rfl, by decide +kernel, by decide +kernel⟩
theorem ok_from (T : Txt K mg) (X : TxR K mg CA CS C) {f fm : Addr} {fd fdm : FuncData} (F : Fun K "ask_from" "Running.ask_from" sFrom f fd) (GM : FnOk P w K mg base CX0 3 fm fdm ["self", "f", "numbers", "waiting"] (spAskM CA CS C)) (bM : Binds K fdm ["self", "f", "numbers", "waiting"] []) (mM : Meth K C "ask" fm) {fl : Addr} {fdl : FuncData} (GL : FnOk P w K mg base CX0 1 fl fdl ["got", "many"] spLast) (RL : Ref K mg "last_taken" fl fdl ["got", "many"]) :
    FnOk P w K mg base CX0 4 f fd ["self", "step"] (spFrom CA CS C) := by
  refine F.ok scFrom (fun vs H Q E h => ?_) (fun cdv A outer s H vs Q E hr h => ?_)
  · obtain ⟨H0, es, hd, sz, p, a, c, d, s, f, rfl, _⟩ := h
    rfl
  obtain ⟨H0, es, hd, sz, p, a, c, d, s, f, rfl, R, ⟨dx, tb, k, hk, hs, ht⟩, hh, hg, hno, E0, hf, hz, hsa, hz4, q⟩ := h
  refine ⟨_, pss_cons (ps_if (pt_not (pt_truth (pe_fld (pv 1) rfl) (by intro _; rfl))) (pss_one (ps_fldaug (pv 0) pe_int in_add)) pss_nil)
    (pss_cons (ps_set (i := 2) scFrom.nd rfl (Or.inl rfl) (pe_call GL (hr.mono (by omega)) rfl RL.m RL.k RL.b .nil pass0 (pa_cons (pe_fld (pv 0) rfl) (pa_cons (pe_callB call_len_seq (by rfl) T.m_len PySem.boot_len (pa_cons (pe_ix ix_tup (pe_fld (pv 1) rfl) pe_int (fun _ _ => rfl)) pa_nil)) pa_nil))))
    (pss_cons (ps_set (i := 3) scFrom.nd rfl (Or.inl rfl) (pe_ifExp (pt_truth (pe_fld (pv 1) rfl) (by intro _; rfl)) (pe_fld (pe_fld (pv 1) rfl) rfl) (pe_op op_add (pe_fld (pe_fld (pv 1) rfl) rfl) pe_int)))
    (pss_one (ps_expr (pe_meth (pv 0) X.clR mM GM (hr.mono (by omega)) bM .nil pass0 (pa_cons (pe_ix ix_tup (pe_fld (pv 1) rfl) pe_int (fun _ _ => rfl)) (pa_cons (pv 2) (pa_cons (pv 3) pa_nil)))))))), ?_⟩
  obtain ⟨xs, l, hl, hp⟩ := ht.parts
  rw [hh] at l
  obtain ⟨l4, ap, la, lp⟩ := l
  refine ⟨_, rfl, a, CS, _, _, _, rfl, hs, X.clS, X.sLed, s_led _, s.led, rfl, ?_⟩
  have hl' : leftC c s = if s.led = true then c.left else c.left + 1 := rfl
  cases hled : s.led
  · refine itT rfl ⟨_, rfl, p, C, _, _, _, rfl, R.ob, X.clR, X.rLeft, l_left _, _, _, rfl, rfl, _, _, R.ob, (by show 9 < 1000; decide), ?_⟩
    rw [r_left]
    rw [hled, if_neg Bool.false_ne_true] at hl'
    have R1 : RunAt CA CS C H0 (upd H p (.ins C d.dx (fsR { rv c d with left := .int (c.left + 1) }))) es sz p ⟨c.most, c.asked, c.trail, c.fin, c.deepest, leftC c s, c.steps, c.got, c.asks⟩ d :=
      RunAt.putOb R (c' := ⟨c.most, c.asked, c.trail, c.fin, c.deepest, leftC c s, c.steps, c.got, c.asks⟩) (v := d.ev) (dx' := d.dx) R.ev (by rw [hl']; rfl) rfl rfl rfl rfl
    have hs1 := up_other (o := .ins C d.dx (fsR { rv c d with left := .int (c.left + 1) })) hs R.ob (by intro q; cases q) hs
    have T1 : TK H (upd H p (.ins C d.dx (fsR { rv c d with left := .int (c.left + 1) }))) := tk_upd R.ob (by intro xs q; cases q)
    have la1 := T1 _ _ la
    have lp1 := T1 _ _ lp
    revert R1 hs1 la1 lp1
    generalize upd H p (.ins C d.dx (fsR { rv c d with left := .int (c.left + 1) })) = H1
    intro R1 hs1 la1 lp1
    have hn : xs.length ≤ c.got.length := by rw [hl]; exact hg
    have e2 : ((c.got.reverse.map V.int).length : Int) = (c.got.length : Int) := by rw [List.length_map, List.length_reverse]
    refine ⟨_, rfl, p, C, _, _, _, rfl, R1.ob, X.clR, X.rGot, l_got _, _, rfl, a, CS, _, _, _, rfl, hs1, X.clS, X.sTerm, s_term _, tb, _, _, _, rfl, rfl, SqT.of la1, at2, ap, _, rfl, .inr (SqT.of lp1), d.gl, _, xs.length, rfl, R1.gt, by rw [List.length_map, List.length_reverse]; exact hn, fun H2 v sA hv2 => ?_⟩
    have hlm : (c.got.reverse.map V.int).length = c.got.length := by rw [List.length_map, List.length_reverse]
    rw [hlm, got_drop hn, hl] at hv2
    rw [hlm]
    have R2 := R1.mono sA (Nat.le_refl _)
    have R3 : RunAt CA CS C H0 (upd H2 d.gl (.lst ((c.got.reverse.map V.int).take (c.got.length - xs.length)))) es sz p ⟨c.most, c.asked, c.trail, c.fin, c.deepest, leftC c s, c.steps, c.got.drop xs.length, c.asks⟩ d := by
      rw [got_take hn]
      exact R2.putGot (Nat.le_refl _) (by rw [List.length_drop]; exact Nat.le_trans (Nat.sub_le _ _) R2.gz)
    have hs3 := up_other (o := .lst ((c.got.reverse.map V.int).take (c.got.length - xs.length))) (sA _ _ hs1) R2.gt (by intro q; cases q) (sA _ _ hs1)
    have T3 : TK H2 (upd H2 d.gl (.lst ((c.got.reverse.map V.int).take (c.got.length - xs.length)))) := tk_upd R2.gt (by intro xs q; cases q)
    have la3 := T3 _ _ (sA _ _ la1)
    have lp3 := T3 _ _ (sA _ _ lp1)
    have hv3 := T3 _ _ hv2
    revert R3 hs3 la3 lp3 hv3
    generalize upd H2 d.gl (.lst ((c.got.reverse.map V.int).take (c.got.length - xs.length))) = H3
    intro R3 hs3 la3 lp3 hv3
    obtain ⟨e, he, dk, kvs, ka, kw, kl, kv⟩ := R3.ak.get hk
    have ew : waitAt c s.k = e.2 := by
      have he' : c.asks[s.k]? = some e := he
      unfold waitAt
      rw [he']
      rfl
    have hlen : (c.got.take (kidsT s.t).length).reverse.length = (kidsT s.t).length := by
      rw [List.length_reverse, List.length_take]
      omega
    -- waiting = ..; self.ask(..)
    refine ⟨_, rfl, a, CS, _, _, _, rfl, hs3, X.clS, X.sLast, s_last _, s.last, rfl, ?_⟩
    have fin : ∀ wt : Int, wt = (if s.last = true then waitAt c s.k else waitAt c s.k + 1) → spAskM CA CS C [.ref p, .str f, .ref v, .int wt] H3 Q E := fun wt hwt => by
      refine ⟨H0, es, hd, sz, p, _, d, f, v, _, wt, rfl, R3, hno, E0, by rw [hlen]; exact hf, hv3, hz, hsa, hz4, fun H' d' R' => q H' d' ?_⟩
      have ec : finC es c s = askC es ⟨c.most, c.asked, c.trail, c.fin, c.deepest, leftC c s, c.steps, c.got.drop (kidsT s.t).length, c.asks⟩ f (c.got.take (kidsT s.t).length).reverse (if s.last = true then waitAt c s.k else waitAt c s.k + 1) := by
        unfold finC
        rw [hh]
      rw [ec, ← hwt, ← hl]
      rw [← hl] at R'
      exact R'
    cases hla : s.last
    · refine itF rfl ⟨_, rfl, a, CS, _, _, _, rfl, hs3, X.clS, X.sAsking, s_asking _, k.1, CA, _, _, _, rfl, ka, X.clA, X.aWaiting, a_waiting _ _, _, _, rfl, rfl, ?_⟩
      exact ⟨_, rfl, p, _, _, rfl, R3.ob, l_no_ask _, _, rfl, a, CS, _, _, _, rfl, hs3, X.clS, X.sTerm, s_term _, tb, _, _, _, rfl, rfl, SqT.of la3, at1, _, rfl, _, rfl, fin _ (by rw [hla, if_neg Bool.false_ne_true, ew])⟩
    · refine itT rfl ⟨_, rfl, a, CS, _, _, _, rfl, hs3, X.clS, X.sAsking, s_asking _, k.1, CA, _, _, _, rfl, ka, X.clA, X.aWaiting, a_waiting _ _, ?_⟩
      exact ⟨_, rfl, p, _, _, rfl, R3.ob, l_no_ask _, _, rfl, a, CS, _, _, _, rfl, hs3, X.clS, X.sTerm, s_term _, tb, _, _, _, rfl, rfl, SqT.of la3, at1, _, rfl, _, rfl, fin _ (by rw [hla, if_pos rfl, ew])⟩
  · refine itF rfl ?_
    rw [hled, if_pos rfl] at hl'
    have R1 : RunAt CA CS C H0 H es sz p ⟨c.most, c.asked, c.trail, c.fin, c.deepest, leftC c s, c.steps, c.got, c.asks⟩ d := by rw [hl']; exact R
    have hs1 := hs
    have la1 := la
    have lp1 := lp
    generalize H = H1 at R1 hs1 la1 lp1 ⊢
    have hn : xs.length ≤ c.got.length := by rw [hl]; exact hg
    have e2 : ((c.got.reverse.map V.int).length : Int) = (c.got.length : Int) := by rw [List.length_map, List.length_reverse]
    refine ⟨_, rfl, p, C, _, _, _, rfl, R1.ob, X.clR, X.rGot, l_got _, _, rfl, a, CS, _, _, _, rfl, hs1, X.clS, X.sTerm, s_term _, tb, _, _, _, rfl, rfl, SqT.of la1, at2, ap, _, rfl, .inr (SqT.of lp1), d.gl, _, xs.length, rfl, R1.gt, by rw [List.length_map, List.length_reverse]; exact hn, fun H2 v sA hv2 => ?_⟩
    have hlm : (c.got.reverse.map V.int).length = c.got.length := by rw [List.length_map, List.length_reverse]
    rw [hlm, got_drop hn, hl] at hv2
    rw [hlm]
    have R2 := R1.mono sA (Nat.le_refl _)
    have R3 : RunAt CA CS C H0 (upd H2 d.gl (.lst ((c.got.reverse.map V.int).take (c.got.length - xs.length)))) es sz p ⟨c.most, c.asked, c.trail, c.fin, c.deepest, leftC c s, c.steps, c.got.drop xs.length, c.asks⟩ d := by
      rw [got_take hn]
      exact R2.putGot (Nat.le_refl _) (by rw [List.length_drop]; exact Nat.le_trans (Nat.sub_le _ _) R2.gz)
    have hs3 := up_other (o := .lst ((c.got.reverse.map V.int).take (c.got.length - xs.length))) (sA _ _ hs1) R2.gt (by intro q; cases q) (sA _ _ hs1)
    have T3 : TK H2 (upd H2 d.gl (.lst ((c.got.reverse.map V.int).take (c.got.length - xs.length)))) := tk_upd R2.gt (by intro xs q; cases q)
    have la3 := T3 _ _ (sA _ _ la1)
    have lp3 := T3 _ _ (sA _ _ lp1)
    have hv3 := T3 _ _ hv2
    revert R3 hs3 la3 lp3 hv3
    generalize upd H2 d.gl (.lst ((c.got.reverse.map V.int).take (c.got.length - xs.length))) = H3
    intro R3 hs3 la3 lp3 hv3
    obtain ⟨e, he, dk, kvs, ka, kw, kl, kv⟩ := R3.ak.get hk
    have ew : waitAt c s.k = e.2 := by
      have he' : c.asks[s.k]? = some e := he
      unfold waitAt
      rw [he']
      rfl
    have hlen : (c.got.take (kidsT s.t).length).reverse.length = (kidsT s.t).length := by
      rw [List.length_reverse, List.length_take]
      omega
    -- waiting = ..; self.ask(..)
    refine ⟨_, rfl, a, CS, _, _, _, rfl, hs3, X.clS, X.sLast, s_last _, s.last, rfl, ?_⟩
    have fin : ∀ wt : Int, wt = (if s.last = true then waitAt c s.k else waitAt c s.k + 1) → spAskM CA CS C [.ref p, .str f, .ref v, .int wt] H3 Q E := fun wt hwt => by
      refine ⟨H0, es, hd, sz, p, _, d, f, v, _, wt, rfl, R3, hno, E0, by rw [hlen]; exact hf, hv3, hz, hsa, hz4, fun H' d' R' => q H' d' ?_⟩
      have ec : finC es c s = askC es ⟨c.most, c.asked, c.trail, c.fin, c.deepest, leftC c s, c.steps, c.got.drop (kidsT s.t).length, c.asks⟩ f (c.got.take (kidsT s.t).length).reverse (if s.last = true then waitAt c s.k else waitAt c s.k + 1) := by
        unfold finC
        rw [hh]
      rw [ec, ← hwt, ← hl]
      rw [← hl] at R'
      exact R'
    cases hla : s.last
    · refine itF rfl ⟨_, rfl, a, CS, _, _, _, rfl, hs3, X.clS, X.sAsking, s_asking _, k.1, CA, _, _, _, rfl, ka, X.clA, X.aWaiting, a_waiting _ _, _, _, rfl, rfl, ?_⟩
      exact ⟨_, rfl, p, _, _, rfl, R3.ob, l_no_ask _, _, rfl, a, CS, _, _, _, rfl, hs3, X.clS, X.sTerm, s_term _, tb, _, _, _, rfl, rfl, SqT.of la3, at1, _, rfl, _, rfl, fin _ (by rw [hla, if_neg Bool.false_ne_true, ew])⟩
    · refine itT rfl ⟨_, rfl, a, CS, _, _, _, rfl, hs3, X.clS, X.sAsking, s_asking _, k.1, CA, _, _, _, rfl, ka, X.clA, X.aWaiting, a_waiting _ _, ?_⟩
      exact ⟨_, rfl, p, _, _, rfl, R3.ob, l_no_ask _, _, rfl, a, CS, _, _, _, rfl, hs3, X.clS, X.sTerm, s_term _, tb, _, _, _, rfl, rfl, SqT.of la3, at1, _, rfl, _, rfl, fin _ (by rw [hla, if_pos rfl, ew])⟩
end
end KB

namespace KB
open PySem L2 HT

/-- a loop over a tuple from its end -/
theorem for_revT {K : PySem.W.Frag} {a : Addr} {xs : List V} {g : TG} {tb : TS} {D : Ends} {σ : L2.St} {H : Hp} (Pv : Nat → L2.St → Hp → Prop) (h0 : Pv 0 σ H) (hl : ∀ i σ H, i ≤ xs.length → Pv i σ H → SqT K H a xs)
    (hs : ∀ i x σ H, i < xs.length → xs[xs.length - 1 - i]? = some x → Pv i σ H → g x σ H fun σ2 H2 => tb { D with nx := Pv (i + 1), ct := Pv (i + 1), bk := D.nx } σ2 H2) (hd : ∀ σ H, Pv xs.length σ H → D.nx σ H) :
    ∃ W : Nat → Nat → L2.St → Hp → Prop, (∃ m, W 0 m σ H) ∧ ∀ i m σ H, W i m σ H →
      ((RT.ItvT K a xs.length).stop i H ∧ D.nx σ H) ∨ ((RT.ItvT K a xs.length).go i H ∧ ∃ N : L2.St → Hp → Prop, (∀ σ' H', N σ' H' → ∃ m', m' < m ∧ W (i + 1) m' σ' H') ∧ ∀ x H', (RT.ItvT K a xs.length).yld i H x H' → g x σ H' fun σ2 H2 => tb { D with nx := N, ct := N, bk := D.nx } σ2 H2) := by
  refine ⟨fun i m σ H => m = xs.length - i ∧ i ≤ xs.length ∧ Pv i σ H, ⟨xs.length, by simp, Nat.zero_le _, h0⟩, ?_⟩
  rintro i m σ H ⟨rfl, hi, hp⟩
  by_cases c : i < xs.length
  · have hq := hl i σ H hi hp
    have hx : xs[xs.length - 1 - i]? = some xs[xs.length - 1 - i] := List.getElem?_eq_getElem (by omega)
    refine .inr ⟨⟨c, xs, _, hq, hx⟩, Pv (i + 1), fun σ' H' h => ⟨xs.length - (i + 1), by omega, rfl, by omega, h⟩, fun x H' hy => ?_⟩
    obtain ⟨e, hx'⟩ := hy
    subst e
    exact hs i x σ _ c (hx' xs hq) hp
  · have e : i = xs.length := by omega
    subst e
    exact .inl ⟨Nat.le_refl _, hd σ H hp⟩
theorem first_get {t : Tm} {j : Nat} (h : j < (firstT t).length) : (firstT t)[j]? = some (kid t j) := by
  have hk : j < (kidsT t).length := by
    rw [← first_rest, List.length_append]
    omega
  have := kid_eq hk
  rw [← first_rest, List.getElem?_append_left h] at this
  exact this
def mkF (s : Fr) (t : Tm) : Fr := ⟨t, s.k, false, false, false⟩
theorem first_drop {s : Fr} {i : Nat} {r : List Fr} (h : i < (firstT s.t).length) : ((firstT s.t).drop ((firstT s.t).length - (i + 1))).map (mkF s) ++ r = mkF s (kid s.t ((firstT s.t).length - 1 - i)) :: (((firstT s.t).drop ((firstT s.t).length - i)).map (mkF s) ++ r) := by
  have e1 : (firstT s.t).length - (i + 1) = (firstT s.t).length - 1 - i := by omega
  have h2 : (firstT s.t).length - 1 - i < (firstT s.t).length := by omega
  rw [e1, List.drop_eq_getElem_cons h2, List.map_cons, List.cons_append]
  have e3 : (firstT s.t)[(firstT s.t).length - 1 - i] = kid s.t ((firstT s.t).length - 1 - i) := by
    have := first_get h2
    rw [List.getElem?_eq_getElem h2] at this
    exact Option.some.inj this
  rw [e3, show (firstT s.t).length - 1 - i + 1 = (firstT s.t).length - i by omega]
section
variable {P : Program} {w : World} {K : PySem.W.Frag} {mg : Str → Option Value} {base : Heap} {CA CS C : Addr}
/-! ### begin -/
def spBeg (CA CS C : Addr) : Sp := fun vs H Q _ => ∃ (H0 : Hp) (es : List Er) (sz : Nat) (p a : Addr) (c : Cf) (d : Ad) (s : Fr) (r : List Fr) (as : List Addr), vs = [.ref p, .ref a] ∧ RunAt CA CS C H0 H es sz p c d ∧ c.steps = s :: r ∧ d.sa = a :: as ∧ s.begun = false ∧ arT s.t ∧
  d.sa.length + 8 ≤ 1000000 ∧ ∀ H' d', RunAt CA CS C H0 H' es sz p (beginC c s r) d' → Q .non H'
abbrev sBeg : Stmt := inClass (top 28) 3
theorem scBeg : FnScope ["self", "step", "part"] ["self", "step"] (defScope sBeg) := ⟨rfl, rfl, rfl, by decide +kernel, rfl, by decide +kernel, by decide +kernel⟩
theorem ok_beg (T : Txt K mg) (X : TxR K mg CA CS C) {f ff fS : Addr} {fd fdf fdS : FuncData} (F : Fun K "begin" "Running.begin" sBeg f fd) (GF : FnOk P w K mg base CX0 2 ff fdf ["term"] spFirst) (RF : Ref K mg "first_parts" ff fdf ["term"])
    (MS : Mk K CS fS) (FS : Fun K "__init__" "Step.__init__" sStepI fS fdS) (bS : Binds K fdS ["self", "term", "asking", "led", "last"] []) : FnOk P w K mg base CX0 3 f fd ["self", "step"] (spBeg CA CS C) := by
  have GS : FnOk P w K mg base CX0 1 fS fdS ["self", "term", "asking", "led", "last"] (spStepI CS) := ok_stepI X FS
  refine F.ok scBeg (fun vs H Q E h => ?_) (fun cdv A outer s H vs Q E hr h => ?_)
  · obtain ⟨H0, es, sz, p, a, c, d, s, r, as, rfl, _⟩ := h
    rfl
  obtain ⟨H0, es, sz, p, a, c, d, s, r, as, rfl, R, e1, e2, hb, har, hsa, q⟩ := h
  refine ⟨_, pss_cons (ps_fld (pv 1) pe_bl rfl)
    (pss_one (ps_for PassesOwn.never rfl (RT.pi_revA rfl T.m_reversed (pe_call GF (hr.mono (by omega)) rfl RF.m RF.k RF.b .nil pass0 (pa_cons (pe_fld (pv 1) rfl) pa_nil))) (pg_name (i := 2) scBeg.nd rfl (Or.inl rfl))
      (pss_one (ps_expr (pe_bm PySem.F.plainAttrs_list PySem.F.slot_list_append PySem.F.type_list_append mt_append (pe_fld (pv 0) rfl) (pa_cons (pe_make MS GS (hr.mono (by omega)) rfl X.mgS bS .nil pass0
        (pa_cons (pv 2) (pa_cons (pe_fld (pv 1) rfl) (pa_cons pe_bl (pa_cons pe_bl pa_nil))))) pa_nil)))))), ?_⟩
  have hst := R.st
  rw [e1, e2] at hst
  obtain ⟨⟨dx, tb, k, hk, hs, ht⟩, hst⟩ := hst
  refine ⟨_, rfl, a, CS, dx, _, rfl, hs, X.clS, X.sBegun, (by show 5 < 1000; decide), ?_⟩
  rw [s_beg]
  have R1 := R.putBegun (dx' := dx) e1 e2 hk hs ht
  have T1 : TK H (upd H a (.ins CS dx (fsS ⟨.ref tb, .ref k.1, .bl s.led, .bl s.last, .bl true⟩))) := tk_upd hs (by intro xs q; cases q)
  have ht1 := ht.tk T1
  have hs1 : upd H a (.ins CS dx (fsS ⟨.ref tb, .ref k.1, .bl s.led, .bl s.last, .bl true⟩)) a = some (.ins CS dx (fsS ⟨.ref tb, .ref k.1, .bl s.led, .bl s.last, .bl true⟩)) := upd_same
  revert R1 ht1 hs1
  generalize upd H a (.ins CS dx (fsS ⟨.ref tb, .ref k.1, .bl s.led, .bl s.last, .bl true⟩)) = H1
  intro R1 ht1 hs1
  obtain ⟨xs, l, hl, hp⟩ := ht1.parts
  refine ⟨_, rfl, a, CS, _, _, _, rfl, hs1, X.clS, X.sTerm, s_term _, tb, _, _, rfl, l, fun u H2 s2 hu => ?_⟩
  have hfl : (if lazyH (hdT s.t) = true then xs.take 1 else xs).length = (firstT s.t).length := by
    unfold firstT
    by_cases cl : lazyH (hdT s.t) = true
    · rw [if_pos cl, if_pos cl, List.length_take, List.length_take, hl]
    · rw [if_neg cl, if_neg cl, hl]
  have hget : ∀ j, j < (firstT s.t).length → ∃ b, (if lazyH (hdT s.t) = true then xs.take 1 else xs)[j]? = some (.ref b) ∧ At H2 (kid s.t j) b := by
    intro j hj
    have hj2 : j < xs.length := by
      rw [hl, ← first_rest, List.length_append]
      omega
    obtain ⟨b, h1, h2⟩ := hp j hj2
    refine ⟨b, ?_, h2.mono s2⟩
    by_cases cl : lazyH (hdT s.t) = true
    · rw [if_pos cl, List.getElem?_take, if_pos]
      · exact h1
      · have : (firstT s.t).length ≤ 1 := by
          unfold firstT
          rw [if_pos cl, List.length_take]
          omega
        omega
    · rw [if_neg cl]
      exact h1
  generalize (if lazyH (hdT s.t) = true then xs.take 1 else xs) = ys at hu hfl hget
  have R2 := R1.mono s2 (Nat.le_refl _)
  refine ⟨u, ys, rfl, .inr ⟨SqT.of hu, ?_⟩⟩
  refine for_revT (xs := ys) (fun i σ H' => ∃ (v : Option V) (d' : Ad), σ = [some (.ref p), some (.ref a), v] ∧ TK H2 H' ∧ H' a = some (.ins CS dx (fsS ⟨.ref tb, .ref k.1, .bl s.led, .bl s.last, .bl true⟩)) ∧ d'.aa = d.aa ∧ d'.sa.length = d.sa.length + i ∧
    RunAt CA CS C H0 H' es sz p { c with steps := ((firstT s.t).drop ((firstT s.t).length - i)).map (mkF s) ++ { s with begun := true } :: r } d') ?_ ?_ ?_ ?_
  · refine ⟨_, d, rfl, TK.refl _, s2 _ _ hs1, rfl, rfl, ?_⟩
    rw [Nat.sub_zero, List.drop_length]
    exact R2
  · rintro i σ H' _ ⟨v, d', _, tk, _⟩
    exact SqT.of (tk _ _ hu)
  · rintro i x σ H3 hi hx ⟨v, d', rfl, tk, ha3, haa, hlen, R3⟩
    have hi' : i < (firstT s.t).length := by rw [← hfl]; exact hi
    obtain ⟨b, hb1, hb2⟩ := hget ((firstT s.t).length - 1 - i) (by omega)
    rw [hfl, hb1] at hx
    cases (Option.some.inj hx)
    refine ⟨_, rfl, p, C, _, _, _, rfl, R3.ob, X.clR, X.rSteps, l_steps _, .inl ⟨rfl, _, SqL.of R3.sl⟩, _, rfl, _, rfl, a, CS, _, _, _, rfl, ha3, X.clS, X.sAsking, s_asking _,
      fun y dy ny ndy ney => ⟨y, dy, _, _, _, _, rfl, upd_same, rfl, ?_⟩⟩
    rw [upd_upd]
    have hk3 : d'.aa[s.k]? = some k := by rw [haa]; exact hk
    have R4 := R3.pushStep (s := mkF s (kid s.t ((firstT s.t).length - 1 - i))) ny ndy hk3 (hb2.tk tk)
    have sC : Same H3 (upd (upd H3 dy (.own y)) y (.ins CS dy (fsS ⟨.ref b, .ref k.1, .bl false, .bl false, .bl false⟩))) := fun b o hb => by
      rw [upd_ne (ne_of_none hb ny), upd_ne (ne_of_none hb ndy)]
      exact hb
    have h4 : (firstT s.t).length ≤ 4 := by
      have h5 := ar_len har
      have h6 : (firstT s.t).length ≤ (kidsT s.t).length := by
        rw [← first_rest, List.length_append]
        omega
      cases hh : hdT s.t <;> rw [hh] at h5 <;> first | (have h5 : (kidsT s.t).length = _ := h5; omega) | (have h5 : (kidsT s.t).length ≤ 4 := h5; omega)
    refine ⟨d'.sl, _, _, rfl, rfl, sC _ _ R3.sl, by rw [List.length_map, List.length_reverse]; exact big (by omega), ?_⟩
    refine ⟨_, { d' with sa := y :: d'.sa }, rfl, tk.trans ((tk_same sC).trans (tk_put (sC _ _ R3.sl))), ?_, haa, by show (y :: d'.sa).length = _; rw [List.length_cons, hlen]; omega, ?_⟩
    · exact up_other (sC _ _ ha3) (sC _ _ R3.sl) (by intro q; cases q) (sC _ _ ha3)
    · rw [first_drop hi']
      exact R4
  · rintro σ H3 ⟨v, d', rfl, tk, ha3, haa, hlen, R3⟩
    rw [hfl, Nat.sub_self, List.drop_zero] at R3
    exact q _ _ R3
end
end KB

namespace KB
open PySem L2 HT

section
variable {P : Program} {w : World} {K : PySem.W.Frag} {mg : Str → Option Value} {base : Heap} {CA CS C : Addr}
/-! ### finish -/
def spFin (CA CS C : Addr) : Sp := fun vs H Q _ => ∃ (H0 : Hp) (es : List Er) (hd : Str → Option Nat) (sz : Nat) (p a : Addr) (c : Cf) (d : Ad) (s : Fr), vs = [.ref p, .ref a] ∧ RunAt CA CS C H0 H es sz p c d ∧ SoAt CS H d s a ∧ arT s.t ∧ (firstT s.t).length ≤ c.got.length ∧
  (∃ xs, okS hd s.t xs ∧ ∀ x ∈ xs, ∃ z, envAt c s.k x = some z) ∧ c.fin = .no ∧ EsOk es hd ∧ sz + 4 ≤ 1000000 ∧ d.sa.length + 4 ≤ 1000000 ∧ 4 ≤ sz ∧ ∀ H' d', RunAt CA CS C H0 H' es (sz + 1) p (finC es c s) d' → Q .non H'
abbrev sFin : Stmt := inClass (top 28) 4
theorem scFin : FnScope ["self", "step", "head"] ["self", "step"] (defScope sFin) := ⟨rfl, rfl, rfl, by decide +kernel, rfl, by decide +kernel, by decide +kernel⟩
theorem SoAt.mono {H H' : Hp} {d : Ad} {s : Fr} {a : Addr} (e : Same H H') (h : SoAt CS H d s a) : SoAt CS H' d s a := let ⟨dx, tb, k, h1, h2, h3⟩ := h; ⟨dx, tb, k, h1, e _ _ h2, h3.mono e⟩
theorem l_no_comb (r : RV) : (fsR r).lookup ("combine" : Str) = none := by rfl
theorem l_no_let (r : RV) : (fsR r).lookup ("let" : Str) = none := by rfl
theorem l_no_cho (r : RV) : (fsR r).lookup ("choose" : Str) = none := by rfl
theorem l_no_from (r : RV) : (fsR r).lookup ("ask_from" : Str) = none := by rfl
theorem ok_fin (X : TxR K mg CA CS C) {f f1 f2 f3 f4 : Addr} {fd d1 d2 d3 d4 : FuncData} (F : Fun K "finish" "Running.finish" sFin f fd)
    (G1 : FnOk P w K mg base CX0 2 f1 d1 ["self", "head"] (spComb C)) (b1 : Binds K d1 ["self", "head"] []) (m1 : Meth K C "combine" f1)
    (G2 : FnOk P w K mg base CX0 3 f2 d2 ["self", "step"] (spLet CA CS C)) (b2 : Binds K d2 ["self", "step"] []) (m2 : Meth K C "let" f2)
    (G3 : FnOk P w K mg base CX0 3 f3 d3 ["self", "step"] (spCho CA CS C)) (b3 : Binds K d3 ["self", "step"] []) (m3 : Meth K C "choose" f3)
    (G4 : FnOk P w K mg base CX0 4 f4 d4 ["self", "step"] (spFrom CA CS C)) (b4 : Binds K d4 ["self", "step"] []) (m4 : Meth K C "ask_from" f4) :
    FnOk P w K mg base CX0 5 f fd ["self", "step"] (spFin CA CS C) := by
  refine F.ok scFin (fun vs H Q E h => ?_) (fun cdv A outer s H vs Q E hr h => ?_)
  · obtain ⟨H0, es, hd, sz, p, a, c, d, s, rfl, _⟩ := h
    rfl
  obtain ⟨H0, es, hd, sz, p, a, c, d, s, rfl, R, so, har, hn, ⟨xw, hsc, hen⟩, hno, E0, hz, hsa, hz4, q⟩ := h
  refine ⟨_, pss_cons (ps_set (i := 2) scFin.nd rfl (Or.inl rfl) (pe_ix ix_tup (pe_fld (pv 1) rfl) pe_int (fun _ _ => rfl)))
    (pss_one (ps_if (pt_cmpR op_eq (pv 2) pe_str (nomark _))
      (pss_one (ps_expr (pe_bm PySem.F.plainAttrs_list PySem.F.slot_list_append PySem.F.type_list_append mt_append (pe_fld (pv 0) rfl) (pa_cons (pe_ix ix_tup (pe_fld (pv 1) rfl) pe_int (fun _ _ => rfl)) pa_nil))))
    (pss_one (ps_if (pt_cmpR op_eq (pv 2) pe_str (nomark _))
      (pss_one (ps_expr (pe_bm PySem.F.plainAttrs_list PySem.F.slot_list_append PySem.F.type_list_append mt_append (pe_fld (pv 0) rfl) (pa_cons (pe_dget (hu_of hr) (pe_fld (pe_fld (pv 1) rfl) rfl) (pe_ix ix_tup (pe_fld (pv 1) rfl) pe_int (fun _ _ => rfl)) (fun _ _ => rfl)) pa_nil))))
    (pss_one (ps_if (pt_cmpR op_in_seq (pv 2) (pe_tup (pa_cons pe_str (pa_cons pe_str pa_nil))) rfl)
      (pss_one (ps_expr (pe_meth (pv 0) X.clR m1 G1 (hr.mono (by omega)) b1 .nil pass0 (pa_cons (pv 2) pa_nil))))
    (pss_one (ps_if (pt_cmpR op_eq (pv 2) pe_str (nomark _))
      (pss_one (ps_expr (pe_bm PySem.F.plainAttrs_list PySem.F.slot_list_append PySem.F.type_list_append mt_append (pe_fld (pv 0) rfl) (pa_cons (pe_tup (pa_cons pe_str (pa_cons (pe_ix ix_list (pe_fld (pv 0) rfl) (pe_un un_neg pe_int) (fun _ _ => rfl)) pa_nil))) pa_nil))))
    (pss_one (ps_if (pt_cmpR op_eq (pv 2) pe_str (nomark _))
      (pss_one (ps_expr (pe_meth (pv 0) X.clR m2 G2 (hr.mono (by omega)) b2 .nil pass0 (pa_cons (pv 1) pa_nil))))
    (pss_one (ps_if (pt_cmpR op_eq (pv 2) pe_str (nomark _))
      (pss_one (ps_expr (pe_meth (pv 0) X.clR m3 G3 (hr.mono (by omega)) b3 .nil pass0 (pa_cons (pv 1) pa_nil))))
    (pss_one (ps_expr (pe_meth (pv 0) X.clR m4 G4 (hr.mono (by omega)) b4 .nil pass0 (pa_cons (pv 1) pa_nil)))))))))))))))), ?_⟩
  obtain ⟨dx, tb, k, hk, hs, ht⟩ := id so
  obtain ⟨xs, l, hl, hp⟩ := ht.parts
  obtain ⟨r0, hhd⟩ := l.head
  refine ⟨_, rfl, a, CS, _, _, _, rfl, hs, X.clS, X.sTerm, s_term _, tb, _, _, _, rfl, rfl, SqT.of hhd, at0, ?_⟩
  refine ⟨_, rfl, rfl, _, rfl, ?_⟩
  have hfl := first_len har
  have hal := ar_len har
  cases hh : hdT s.t with
  | num z =>
    rw [hh] at l
    refine itT rfl ⟨_, rfl, p, C, _, _, _, rfl, R.ob, X.clR, X.rGot, l_got _, .inl ⟨rfl, _, SqL.of R.gt⟩, _, rfl, a, CS, _, _, _, rfl, hs, X.clS, X.sTerm, s_term _, tb, _, _, _, rfl, rfl, SqT.of l.2, at1, d.gl, _, _, rfl, rfl, R.gt, by rw [List.length_map, List.length_reverse]; exact big (by have := R.gz; omega), ?_⟩
    rw [← got_rev]
    refine q _ d ?_
    have := R.putGot (g := z :: c.got) (sz' := sz + 1) (Nat.le_succ _) (Nat.succ_le_succ R.gz)
    unfold finC
    rw [hh]
    exact this
  | nam x =>
    rw [hh] at l
    obtain ⟨e, he, dk, kvs, ka, kw, kl, kv⟩ := R.ak.get hk
    have hx : x ∈ xw := by
      cases htt : s.t with
      | mk h n k =>
        rw [htt] at hsc hh
        have hh : h = .nam x := hh
        subst hh
        exact hsc.1
    obtain ⟨z, hz'⟩ := hen x hx
    have ee : envAt c s.k = e.1 := by
      unfold envAt
      rw [he]
      rfl
    have hv : valV kvs (Sum.inr x) = some (V.int z) := by
      rw [kv x, ← ee, hz']
      rfl
    have dg : DGet H k.2 (.str x) (some (.int z)) := by
      have := DGet.k (k := (Sum.inr x : Key)) kw
      rw [hv] at this
      exact this
    refine itF rfl ⟨_, rfl, rfl, _, rfl, ?_⟩
    refine itT rfl ⟨_, rfl, p, C, _, _, _, rfl, R.ob, X.clR, X.rGot, l_got _, .inl ⟨rfl, _, SqL.of R.gt⟩, _, rfl, a, CS, _, _, _, rfl, hs, X.clS, X.sAsking, s_asking _, k.1, CA, _, _, _, rfl, ka, X.clA, X.aWords, a_words _ _,
      _, rfl, a, CS, _, _, _, rfl, hs, X.clS, X.sTerm, s_term _, tb, _, _, _, rfl, rfl, SqT.of l.2, at1, k.2, _, rfl, dg, d.gl, _, _, rfl, rfl, R.gt, by rw [List.length_map, List.length_reverse]; exact big (by have := R.gz; omega), ?_⟩
    rw [← got_rev]
    refine q _ d ?_
    have := R.putGot (g := z :: c.got) (sz' := sz + 1) (Nat.le_succ _) (Nat.succ_le_succ R.gz)
    unfold finC
    rw [hh]
    show RunAt CA CS C H0 _ es (sz + 1) p { c with got := (envAt c s.k x).getD 0 :: c.got } d
    rw [hz']
    exact this
  | plus =>
    refine itF rfl ⟨_, rfl, rfl, _, rfl, ?_⟩
    refine itF rfl ⟨_, rfl, by show 2 ≤ sizeLine; decide, fun t ht0 => ?_⟩
    have s1 := same_new ht0 (.tup [.str "plus", .str "less"])
    refine ⟨t, _, rfl, .inr (SqT.of upd_same), rfl, rfl, _, rfl, ?_⟩
    have R1 := R.mono s1 (Nat.le_refl _)
    have so1 := so.mono s1
    have hs1 := s1 _ _ hs
    have gt1 := R1.gt
    revert R1 so1 hs1 gt1
    generalize upd H t (.tup [.str "plus", .str "less"]) = H1
    intro R1 so1 hs1 gt1
    have hk2 : (kidsT s.t).length = 2 := by rw [hh] at hal; exact hal
    obtain ⟨zb, za, g, hg⟩ : ∃ zb za g, c.got = zb :: za :: g := by
      have h2 : 2 ≤ c.got.length := by
        rw [hh] at hfl
        have hfl : (firstT s.t).length = (kidsT s.t).length := hfl
        omega
      match hc : c.got, h2 with
      | zb :: za :: g, _ => exact ⟨zb, za, g, rfl⟩
    have gt2 : H1 d.gl = some (.lst (g.reverse.map V.int ++ [.int za, .int zb])) := by
      rw [gt1, hg, got_rev, got_rev, List.append_assoc]
      rfl
    have gl2 : g.length + 2 ≤ sz := by have := R1.gz; rw [hg] at this; exact this
    refine itT rfl ⟨_, rfl, p, _, _, rfl, R1.ob, l_no_comb _, _, rfl, p, _, d.gl, _, "plus", _, za, zb, rfl, R1.ob, rfl, gt2, by rw [List.length_map, List.length_reverse]; exact big (by omega), ?_⟩
    rw [if_pos rfl, ← got_rev]
    refine q _ d ?_
    have := R1.putGot (g := Int.fmod (za + zb) 1000 :: g) (sz' := sz + 1) (Nat.le_succ _) (by rw [List.length_cons]; omega)
    unfold finC
    rw [hh, hg]
    exact this
  | less =>
    refine itF rfl ⟨_, rfl, rfl, _, rfl, ?_⟩
    refine itF rfl ⟨_, rfl, by show 2 ≤ sizeLine; decide, fun t ht0 => ?_⟩
    have s1 := same_new ht0 (.tup [.str "plus", .str "less"])
    refine ⟨t, _, rfl, .inr (SqT.of upd_same), rfl, rfl, _, rfl, ?_⟩
    have R1 := R.mono s1 (Nat.le_refl _)
    have so1 := so.mono s1
    have hs1 := s1 _ _ hs
    have gt1 := R1.gt
    revert R1 so1 hs1 gt1
    generalize upd H t (.tup [.str "plus", .str "less"]) = H1
    intro R1 so1 hs1 gt1
    have hk2 : (kidsT s.t).length = 2 := by rw [hh] at hal; exact hal
    obtain ⟨zb, za, g, hg⟩ : ∃ zb za g, c.got = zb :: za :: g := by
      have h2 : 2 ≤ c.got.length := by
        rw [hh] at hfl
        have hfl : (firstT s.t).length = (kidsT s.t).length := hfl
        omega
      match hc : c.got, h2 with
      | zb :: za :: g, _ => exact ⟨zb, za, g, rfl⟩
    have gt2 : H1 d.gl = some (.lst (g.reverse.map V.int ++ [.int za, .int zb])) := by
      rw [gt1, hg, got_rev, got_rev, List.append_assoc]
      rfl
    have gl2 : g.length + 2 ≤ sz := by have := R1.gz; rw [hg] at this; exact this
    refine itT rfl ⟨_, rfl, p, _, _, rfl, R1.ob, l_no_comb _, _, rfl, p, _, d.gl, _, "less", _, za, zb, rfl, R1.ob, rfl, gt2, by rw [List.length_map, List.length_reverse]; exact big (by omega), ?_⟩
    rw [if_neg (by decide +kernel), ← got_rev]
    refine q _ d ?_
    have := R1.putGot (g := Int.fmod (za - zb) 1000 :: g) (sz' := sz + 1) (Nat.le_succ _) (by rw [List.length_cons]; omega)
    unfold finC
    rw [hh, hg]
    exact this
  | tell =>
    refine itF rfl ⟨_, rfl, rfl, _, rfl, ?_⟩
    refine itF rfl ⟨_, rfl, by show 2 ≤ sizeLine; decide, fun t ht0 => ?_⟩
    have s1 := same_new ht0 (.tup [.str "plus", .str "less"])
    refine ⟨t, _, rfl, .inr (SqT.of upd_same), rfl, rfl, _, rfl, ?_⟩
    have R1 := R.mono s1 (Nat.le_refl _)
    have so1 := so.mono s1
    have hs1 := s1 _ _ hs
    have gt1 := R1.gt
    revert R1 so1 hs1 gt1
    generalize upd H t (.tup [.str "plus", .str "less"]) = H1
    intro R1 so1 hs1 gt1
    have h1 : 1 ≤ c.got.length := by
      rw [hh] at hfl hal
      have hfl : (firstT s.t).length = (kidsT s.t).length := hfl
      have hal : (kidsT s.t).length = 1 := hal
      omega
    obtain ⟨z, g, hg⟩ : ∃ z g, c.got = z :: g := by
      match hc : c.got, h1 with
      | z :: g, _ => exact ⟨z, g, rfl⟩
    have gt2 : H1 d.gl = some (.lst (g.reverse.map V.int ++ [.int z])) := by
      rw [gt1, hg, got_rev]
    refine itF rfl ⟨_, rfl, rfl, _, rfl, ?_⟩
    refine itT rfl ⟨_, rfl, p, C, _, _, _, rfl, R1.ob, X.clR, X.rTrail, l_trail _, .inl ⟨rfl, _, SqL.of R1.tr⟩, _, rfl, p, C, _, _, _, rfl, R1.ob, X.clR, X.rGot, l_got _, _, rfl, d.gl, _, _, _, rfl, rfl, SqL.of gt2, atI_last _ _, by show 2 ≤ sizeLine; decide, fun u hu => ?_⟩
    have s2 := same_new hu (.tup [.str "tell", .int z])
    have R2 := R1.mono s2 (Nat.le_refl _)
    refine ⟨d.tl, _, _, rfl, rfl, R2.tr, by rw [R2.te.len]; exact big (by have := R2.tz; omega), ?_⟩
    have R3 := R2.putTrail (e := .tell z) (v := .ref u) (sz' := sz + 1) (Nat.le_refl _) ⟨u, rfl, upd_same⟩
    have ez : c.got.getD 0 0 = z := by rw [hg]; rfl
    have ec : finC es c s = { c with trail := c.trail ++ [.tell z] } := by
      unfold finC
      rw [hh, ← ez]
    rw [ec] at q
    exact q _ _ R3
  | lett x =>
    refine itF rfl ⟨_, rfl, rfl, _, rfl, ?_⟩
    refine itF rfl ⟨_, rfl, by show 2 ≤ sizeLine; decide, fun t ht0 => ?_⟩
    have s1 := same_new ht0 (.tup [.str "plus", .str "less"])
    refine ⟨t, _, rfl, .inr (SqT.of upd_same), rfl, rfl, _, rfl, ?_⟩
    have R1 := R.mono s1 (Nat.le_refl _)
    have so1 := so.mono s1
    have hs1 := s1 _ _ hs
    have gt1 := R1.gt
    revert R1 so1 hs1 gt1
    generalize upd H t (.tup [.str "plus", .str "less"]) = H1
    intro R1 so1 hs1 gt1
    have h1 : 1 ≤ c.got.length := by
      rw [hh] at hfl hal
      have hfl : (firstT s.t).length = 1 := hfl
      have hal : (kidsT s.t).length = 2 := hal
      omega
    refine itF rfl ⟨_, rfl, rfl, _, rfl, ?_⟩
    refine itF rfl ⟨_, rfl, rfl, _, rfl, ?_⟩
    refine itT rfl ⟨_, rfl, p, _, _, rfl, R1.ob, l_no_let _, _, rfl, H0, es, sz, p, a, c, d, s, x, rfl, R1, so1, hh, h1, hz, hsa, q⟩
  | iff =>
    refine itF rfl ⟨_, rfl, rfl, _, rfl, ?_⟩
    refine itF rfl ⟨_, rfl, by show 2 ≤ sizeLine; decide, fun t ht0 => ?_⟩
    have s1 := same_new ht0 (.tup [.str "plus", .str "less"])
    refine ⟨t, _, rfl, .inr (SqT.of upd_same), rfl, rfl, _, rfl, ?_⟩
    have R1 := R.mono s1 (Nat.le_refl _)
    have so1 := so.mono s1
    have hs1 := s1 _ _ hs
    have gt1 := R1.gt
    revert R1 so1 hs1 gt1
    generalize upd H t (.tup [.str "plus", .str "less"]) = H1
    intro R1 so1 hs1 gt1
    have h1 : 1 ≤ c.got.length := by
      rw [hh] at hfl hal
      have hfl : (firstT s.t).length = 1 := hfl
      have hal : (kidsT s.t).length = 3 := hal
      omega
    refine itF rfl ⟨_, rfl, rfl, _, rfl, ?_⟩
    refine itF rfl ⟨_, rfl, rfl, _, rfl, ?_⟩
    refine itF rfl ⟨_, rfl, rfl, _, rfl, ?_⟩
    refine itT rfl ⟨_, rfl, p, _, _, rfl, R1.ob, l_no_cho _, _, rfl, H0, es, sz, p, a, c, d, s, rfl, R1, so1, hh, h1, hz, hsa, q⟩
  | ask f =>
    refine itF rfl ⟨_, rfl, rfl, _, rfl, ?_⟩
    refine itF rfl ⟨_, rfl, by show 2 ≤ sizeLine; decide, fun t ht0 => ?_⟩
    have s1 := same_new ht0 (.tup [.str "plus", .str "less"])
    refine ⟨t, _, rfl, .inr (SqT.of upd_same), rfl, rfl, _, rfl, ?_⟩
    have R1 := R.mono s1 (Nat.le_refl _)
    have so1 := so.mono s1
    have hs1 := s1 _ _ hs
    have gt1 := R1.gt
    revert R1 so1 hs1 gt1
    generalize upd H t (.tup [.str "plus", .str "less"]) = H1
    intro R1 so1 hs1 gt1
    have hfd : hd f = some (kidsT s.t).length := by
      cases htt : s.t with
      | mk h n k =>
        rw [htt] at hsc hh
        have hh : h = .ask f := hh
        subst hh
        rw [kids_len]
        exact hsc.1
    have h1 : (kidsT s.t).length ≤ c.got.length := by
      rw [hh] at hfl
      have hfl : (firstT s.t).length = (kidsT s.t).length := hfl
      omega
    refine itF rfl ⟨_, rfl, rfl, _, rfl, ?_⟩
    refine itF rfl ⟨_, rfl, rfl, _, rfl, ?_⟩
    refine itF rfl ⟨_, rfl, rfl, _, rfl, ?_⟩
    refine itF rfl ⟨_, rfl, p, _, _, rfl, R1.ob, l_no_from _, _, rfl, H0, es, hd, sz, p, a, c, d, s, f, rfl, R1, so1, hh, h1, hno, E0, hfd, hz, hsa, hz4, q⟩
end
end KB

namespace KB
open PySem L2 HT

inductive Rch (es : List Er) : Cf → Cf → Prop
  | refl (c : Cf) : Rch es c c
  | snoc {c c1 : Cf} : Rch es c c1 → c1.fin = .no → Rch es c (stepC es c1)
theorem wF_pos (s : Fr) : 1 ≤ wF s := by
  unfold wF
  have := cnt_pos s.t
  by_cases h : s.begun = true
  · rw [if_pos h]
    omega
  · rw [if_neg h]
    omega
theorem len_wF : ∀ fs : List Fr, fs.length ≤ (fs.map wF).sum
  | [] => Nat.le_refl _
  | s :: r => by
    have h1 := len_wF r
    have h2 := wF_pos s
    rw [List.length_cons, List.map_cons, List.sum_cons]
    omega
theorem len_mu (c : Cf) : c.steps.length ≤ mu c := by
  have := len_wF c.steps
  unfold mu
  omega
section
variable {P : Program} {w : World} {K : PySem.W.Frag} {mg : Str → Option Value} {base : Heap} {CA CS C : Addr}
theorem l_no_fin (r : RV) : (fsR r).lookup ("finish" : Str) = none := by rfl
theorem l_no_beg (r : RV) : (fsR r).lookup ("begin" : Str) = none := by rfl
theorem l_no_go (r : RV) : (fsR r).lookup ("go" : Str) = none := by rfl
theorem FeV.no {H : Hp} {f : Fe} {v : V} (h : FeV H f v) : (v = .non ↔ f = .no) := by
  cases f with
  | no => exact ⟨fun _ => rfl, fun _ => h⟩
  | done z => exact ⟨fun e => (by obtain ⟨q, e', _⟩ := h; rw [e] at e'; cases e'), fun e => (by cases e)⟩
  | long => exact ⟨fun e => (by obtain ⟨q, e', _⟩ := h; rw [e] at e'; cases e'), fun e => (by cases e)⟩
/-! ### go -/
def spGo (CA CS C : Addr) : Sp := fun vs H Q _ => ∃ (H0 : Hp) (es : List Er) (hd : Str → Option Nat) (sz : Nat) (p : Addr) (c : Cf) (d : Ad), vs = [.ref p] ∧ RunAt CA CS C H0 H es sz p c d ∧ (WfC es hd c ∨ c.fin ≠ .no) ∧ EsOk es hd ∧ sz + mu c ≤ 900000 ∧ 4 ≤ sz ∧
  ∀ H' sz' c' d', RunAt CA CS C H0 H' es sz' p c' d' → c'.fin ≠ .no → Rch es c c' → Q .non H'
abbrev sGo : Stmt := inClass (top 28) 1
theorem scGo : FnScope ["self"] ["self"] (defScope sGo) := ⟨rfl, rfl, rfl, by decide +kernel, rfl, by decide +kernel, by decide +kernel⟩
theorem ok_go (X : TxR K mg CA CS C) {f f1 f2 : Addr} {fd d1 d2 : FuncData} (F : Fun K "go" "Running.go" sGo f fd)
    (G1 : FnOk P w K mg base CX0 5 f1 d1 ["self", "step"] (spFin CA CS C)) (b1 : Binds K d1 ["self", "step"] []) (m1 : Meth K C "finish" f1)
    (G2 : FnOk P w K mg base CX0 3 f2 d2 ["self", "step"] (spBeg CA CS C)) (b2 : Binds K d2 ["self", "step"] []) (m2 : Meth K C "begin" f2) :
    FnOk P w K mg base CX0 6 f fd ["self"] (spGo CA CS C) := by
  refine F.ok scGo (fun vs H Q E h => ?_) (fun cdv A outer s H vs Q E hr h => ?_)
  · obtain ⟨H0, es, hd, sz, p, c, d, rfl, _⟩ := h
    rfl
  obtain ⟨H0, es, hd, sz, p, c, d, rfl, R, W, E0, hz, hz4, q⟩ := h
  refine ⟨_, pss_one (ps_while PassesOwn.never (pt_cmpR op_isN (pe_fld (pv 0) rfl) pe_non (nomark _))
    (pss_one (ps_if (pt_not (pt_truth (pe_fld (pv 0) rfl) (by intro _; rfl)))
      (pss_one (ps_fld (pv 0) (pe_tup (pa_cons pe_str (pa_cons (pe_bm0 PySem.F.plainAttrs_list PySem.F.slot_list_pop PySem.F.type_list_pop mt_pop (pe_fld (pv 0) rfl)) pa_nil))) rfl))
      (pss_one (ps_if (pt_truth (pe_fld (pe_ix ix_list (pe_fld (pv 0) rfl) (pe_un un_neg pe_int) (fun _ _ => rfl)) rfl) (by intro _; rfl))
        (pss_one (ps_expr (pe_meth (pv 0) X.clR m1 G1 (hr.mono (by omega)) b1 .nil pass0 (pa_cons (pe_bm0 PySem.F.plainAttrs_list PySem.F.slot_list_pop PySem.F.type_list_pop mt_pop (pe_fld (pv 0) rfl)) pa_nil))))
        (pss_one (ps_expr (pe_meth (pv 0) X.clR m2 G2 (hr.mono (by omega)) b2 .nil pass0 (pa_cons (pe_ix ix_list (pe_fld (pv 0) rfl) (pe_un un_neg pe_int) (fun _ _ => rfl)) pa_nil))))))))), ?_⟩
  refine ⟨fun m σ H' => ∃ sz1 c1 d1, m = mu c1 ∧ σ = [some (.ref p)] ∧ RunAt CA CS C H0 H' es sz1 p c1 d1 ∧ (WfC es hd c1 ∨ c1.fin ≠ .no) ∧ sz1 + mu c1 ≤ 900000 ∧ 4 ≤ sz1 ∧ Rch es c c1, ⟨_, sz, c, d, rfl, rfl, R, W, hz, hz4, .refl c⟩, ?_⟩
  rintro m σ H1 ⟨sz1, c1, d1, rfl, rfl, R1, W1, hz1, hz41, hr1⟩
  refine ⟨_, rfl, p, C, _, _, _, rfl, R1.ob, X.clR, X.rEnd, l_end _, rfl, _, rfl, ?_⟩
  have hev := R1.ev.no
  by_cases hno : c1.fin = .no
  · refine itT (decide_eq_true (hev.mpr hno)) ?_
    have W1 : WfC es hd c1 := W1.resolve_right fun z => z hno
    obtain ⟨ws, wm⟩ := wf_step E0 W1
    refine ⟨fun σ' H' => ∃ sz2 d2, σ' = [some (.ref p)] ∧ RunAt CA CS C H0 H' es sz2 p (stepC es c1) d2 ∧ sz2 ≤ sz1 + 1 ∧ 4 ≤ sz2, fun σ' H' ⟨sz2, d2, e1, e2, e3, e4⟩ => ⟨_, wm, sz2, _, d2, rfl, e1, e2, ws, by omega, e4, .snoc hr1 hno⟩, ?_⟩
    have hlm := len_mu c1
    have hsl := R1.st.len
    refine ⟨_, rfl, p, C, _, _, _, rfl, R1.ob, X.clR, X.rSteps, l_steps _, _, .inl ⟨_, SqL.of R1.sl, rfl⟩, ?_⟩
    cases hst : c1.steps with
    | nil =>
      have hsa : d1.sa = [] := List.length_eq_zero_iff.mp (by rw [hsl, hst]; rfl)
      have hb := W1.bal
      rw [hst] at hb
      have hb : c1.got.length = 1 := hb
      obtain ⟨z, hg⟩ : ∃ z, c1.got = [z] := by
        match hc : c1.got, hb with
        | [z], _ => exact ⟨z, rfl⟩
      have gt1 := R1.gt
      have gt2 : H1 d1.gl = some (.lst ([] ++ [.int z])) := by rw [gt1, hg]; rfl
      refine itT (by rw [hsa]; rfl) ?_
      refine ⟨_, rfl, p, C, _, _, _, rfl, R1.ob, X.clR, X.rGot, l_got _, .inl ⟨rfl, _, SqL.of gt2⟩, d1.gl, _, _, rfl, rfl, gt2, lastV, ?_⟩
      rw [dropV]
      have R2 := R1.putGot (g := []) (sz' := sz1) (Nat.le_refl _) (Nat.zero_le _)
      refine ⟨by show 2 ≤ sizeLine; decide, fun t ht => ?_⟩
      have R3 := R2.mono (same_new ht (.tup [.str "done", .int z])) (Nat.le_refl _)
      refine ⟨_, rfl, p, C, _, _, rfl, R3.ob, X.clR, X.rEnd, (by show 9 < 1000; decide), ?_⟩
      rw [r_end]
      have ez : c1.got.getD 0 0 = z := by rw [hg]; rfl
      have ec : stepC es c1 = { c1 with fin := .done z, got := [] } := by
        unfold stepC
        rw [hst]
        show { c1 with fin := .done (c1.got.getD 0 0), got := c1.got.drop 1, steps := [] } = _
        rw [ez, hg]
        rfl
      refine ⟨sz1, { d1 with ev := .ref t, dx := d1.dx }, rfl, ?_, Nat.le_succ _, hz41⟩
      rw [ec]
      exact RunAt.putOb R3 (c' := { c1 with fin := .done z, got := [] }) (v := .ref t) (dx' := d1.dx) ⟨t, rfl, upd_same⟩ rfl rfl rfl rfl rfl
    | cons s r =>
      obtain ⟨a, as, hsa⟩ : ∃ a as, d1.sa = a :: as := by
        match hc : d1.sa, hsl with
        | [], h => rw [hst] at h; cases h
        | a :: as, _ => exact ⟨a, as, rfl⟩
      have hs1 := R1.st
      rw [hst, hsa] at hs1
      obtain ⟨⟨dx, tb, k, hk, hs, ht⟩, hs2⟩ := hs1
      have sl1 : H1 d1.sl = some (.lst (as.reverse.map V.ref ++ [.ref a])) := by
        rw [R1.sl, hsa, sa_rev]
      have fs := W1.fr s (by rw [hst]; exact List.mem_cons_self)
      refine itF (by rw [hsa, sa_rev]; simp) ?_
      refine ⟨_, rfl, p, C, _, _, _, rfl, R1.ob, X.clR, X.rSteps, l_steps _, _, rfl, d1.sl, _, _, _, rfl, rfl, SqL.of sl1, atI_last _ _, a, CS, _, _, _, rfl, hs, X.clS, X.sBegun, s_begun _, s.begun, rfl, ?_⟩
      have hlen : as.length + 1 ≤ mu c1 := by
        have : d1.sa.length ≤ mu c1 := by rw [hsl]; exact hlm
        rw [hsa] at this
        exact this
      cases hb : s.begun with
      | true =>
        have hbal := W1.bal
        rw [hst] at hbal
        obtain ⟨hn, _⟩ := bal_begun hb hbal
        have ec : stepC es c1 = finC es { c1 with steps := r } s := by
          unfold stepC
          rw [hst]
          show (if s.begun = true then _ else _) = _
          rw [if_pos hb]
        refine itT rfl ⟨_, rfl, p, _, _, rfl, R1.ob, l_no_fin _, _, rfl, p, C, _, _, _, rfl, R1.ob, X.clR, X.rSteps, l_steps _, .inl ⟨rfl, _, SqL.of sl1⟩, d1.sl, _, _, rfl, rfl, sl1, lastV, ?_⟩
        rw [dropV]
        have hnd := R1.nd
        rw [hsa] at hnd
        have R2 := R1.putSteps (fs := r) (sa := as) hs2 (List.nodup_cons.mp hnd).2 fun b hb => R1.fs b (by rw [hsa]; exact List.mem_cons_of_mem _ hb)
        have so2 : SoAt CS (upd H1 d1.sl (.lst (as.reverse.map V.ref))) { d1 with sa := as } s a := ⟨dx, tb, k, hk, up_other hs R1.sl (by intro q; cases q) hs, ht.tk (tk_put R1.sl)⟩
        obtain ⟨xw, hsc, hen⟩ := fs.sc
        refine ⟨H0, es, hd, sz1, p, a, { c1 with steps := r }, { d1 with sa := as }, s, rfl, R2, so2, fs.ar, hn, ⟨xw, hsc, hen⟩, hno, E0, by omega, by show as.length + 4 ≤ _; omega, hz41, fun H' d' R' => ?_⟩
        refine ⟨sz1 + 1, d', rfl, ?_, Nat.le_refl _, by omega⟩
        rw [ec]
        exact R'
      | false =>
        have ec : stepC es c1 = beginC c1 s r := by
          unfold stepC
          rw [hst]
          show (if s.begun = true then _ else _) = _
          rw [hb, if_neg Bool.false_ne_true]
        refine itF rfl ⟨_, rfl, p, _, _, rfl, R1.ob, l_no_beg _, _, rfl, p, C, _, _, _, rfl, R1.ob, X.clR, X.rSteps, l_steps _, _, rfl, d1.sl, _, _, _, rfl, rfl, SqL.of sl1, atI_last _ _, ?_⟩
        refine ⟨H0, es, sz1, p, a, c1, d1, s, r, as, rfl, R1, hst, hsa, hb, fs.ar, by rw [hsa, List.length_cons]; omega, fun H' d' R' => ?_⟩
        refine ⟨sz1, d', rfl, ?_, Nat.le_succ _, hz41⟩
        rw [ec]
        exact R'
  · refine itF (decide_eq_false fun z => hno (hev.mp z)) ?_
    exact q _ _ _ _ R1 hno hr1
end
end KB

namespace KB
open PySem L2 HT

section
variable {P : Program} {w : World} {K : PySem.W.Frag} {mg : Str → Option Value} {base : Heap} {CA CS C : Addr}
/-! ### Running(book, most) -/
structure Bd (C : Addr) (H0 : Hp) (es : List Er) (D p dx : Addr) (ls : List Addr) (G : Hp) (fs : List (Str × V)) : Prop where
  p : G p = some (.ins C dx fs)
  er : ErAt G es D
  sm : Same H0 G
  ls : ∀ l ∈ ls, G l = some (.lst []) ∧ H0 l = none
theorem Bd.set {H0 : Hp} {es : List Er} {D p dx : Addr} {ls : List Addr} {G : Hp} {fs fs' : List (Str × V)} (n0 : H0 p = none) (B : Bd C H0 es D p dx ls G fs) : Bd C H0 es D p dx ls (upd G p (.ins C dx fs')) fs' := by
  obtain ⟨kvs, hk, _⟩ := id B.er
  exact ⟨upd_same, B.er.tk (tk_upd B.p (by intro xs q; cases q)) fun o ho => up_other hk B.p (by intro q; cases q) ho, same_upd B.sm n0, fun l hl => ⟨up_other (B.ls l hl).1 B.p (by intro q; cases q) (B.ls l hl).1, (B.ls l hl).2⟩⟩
theorem Bd.new {H0 : Hp} {es : List Er} {D p dx l : Addr} {ls : List Addr} {G : Hp} {fs : List (Str × V)} (B : Bd C H0 es D p dx ls G fs) (hl : G l = none) : Bd C H0 es D p dx (l :: ls) (upd G l (.lst [])) fs ∧ ∀ x ∈ ls, x ≠ l := by
  have e := same_new hl (.lst [])
  refine ⟨⟨e _ _ B.p, B.er.tk (tk_same e) fun o => e _ o, B.sm.trans e, fun x hx => ?_⟩, fun x hx => ne_of_none (B.ls x hx).1 hl⟩
  rcases List.mem_cons.mp hx with rfl | hx
  · exact ⟨upd_same, B.sm.free hl⟩
  · exact ⟨e _ _ (B.ls x hx).1, (B.ls x hx).2⟩
def cf0 (m : Nat) : Cf := ⟨m, 0, [], .no, 0, 0, [], [], []⟩
def spRun0 (CA CS C : Addr) : Sp := fun vs H Q _ => ∃ (H0 : Hp) (es : List Er) (us : List V) (p dx bk : Addr) (m : Nat), vs = [.ref p, .ref bk, .int m] ∧ Same H0 H ∧ H0 p = none ∧ H p = some (.ins C dx []) ∧ BkAt H es us bk ∧ es.length ≤ 6 ∧ (es.map (·.1)).Nodup ∧
  ∀ H' d, RunAt CA CS C H0 H' es 4 p (cf0 m) d → d.sa = [] → Q .non H'
abbrev sRun0 : Stmt := inClass (top 28) 0
theorem scRun0 : FnScope ["self", "book", "most", "name", "names", "body"] ["self", "book", "most"] (defScope sRun0) := ⟨rfl, rfl, rfl, by decide +kernel, rfl, by decide +kernel, by decide +kernel⟩
theorem ok_run0 (X : TxR K mg CA CS C) {f : Addr} {fd : FuncData} (F : Fun K "__init__" "Running.__init__" sRun0 f fd) : FnOk P w K mg base CX0 1 f fd ["self", "book", "most"] (spRun0 CA CS C) := by
  refine F.ok scRun0 (fun vs H Q E h => ?_) (fun cdv A outer s H vs Q E hr h => ?_)
  · obtain ⟨H0, es, us, p, dx, bk, m, rfl, _⟩ := h
    rfl
  obtain ⟨H0, es, us, p, dx, bk, m, rfl, s0, n0, hp, hB, h6, hnd, q⟩ := h
  refine ⟨_, pss_cons (ps_fld (pv 0) (pe_dc (g := gTup K 3 (gCons (gName 3) (gCons (gName 4) (gCons (gName 5) gNil)))) (tt := tYes) (tk := tVar 3) (tv := tTup (tCons (tVar 4) (tCons (tVar 5) tNil))) (by rfl) scRun0.nd (pi_tup (pv 1)) (blkOk_by (own := [("name", 3), ("names", 4), ("body", 5)]) (N := ["self", "book", "most", "name", "names", "body"]) (sc := defScope sRun0) (by decide +kernel))
      (fun _ _ _ _ _ => by exact pg_tup rfl (pgs_cons (pg_name (i := 3) scRun0.nd rfl (Or.inl rfl)) (pgs_cons (pg_name (i := 4) scRun0.nd rfl (Or.inl rfl)) (pgs_cons (pg_name (i := 5) scRun0.nd rfl (Or.inl rfl)) pgs_nil))))
      (fun _ _ _ _ _ => pts_nil) (fun _ _ _ _ _ => pv 3) (fun _ _ _ _ _ => pe_tup (pa_cons (pv 4) (pa_cons (pv 5) pa_nil)))) rfl)
    (pss_cons (ps_fld (pv 0) (pv 2) rfl) (pss_cons (ps_fld (pv 0) (pe_lst pa_nil) rfl) (pss_cons (ps_fld (pv 0) pe_non rfl) (pss_cons (ps_fld (pv 0) pe_int rfl) (pss_cons (ps_fld (pv 0) pe_int rfl) (pss_cons (ps_fld (pv 0) pe_int rfl)
    (pss_cons (ps_fld (pv 0) (pe_lst pa_nil) rfl) (pss_one (ps_fld (pv 0) (pe_lst pa_nil) rfl))))))))), ?_⟩
  refine ⟨_, rfl, bk, rfl, ⟨_, SqT.of hB.1⟩, fun D hD => ?_⟩
  refine ⟨fun i m' H' => m' = us.length - i ∧ i ≤ us.length ∧ Same H H' ∧ ∃ kvs, H' D = some (.dK kvs) ∧ kvs.length ≤ i ∧ ∀ j e, j < i → es[j]? = some e → ∃ qa r b, valV kvs (Sum.inr e.1) = some (.ref qa) ∧ H' qa = some (.tup [.ref r, .ref b]) ∧ H' r = some (.tup (e.2.1.map V.str)) ∧ At H' e.2.2 b,
    ⟨_, rfl, Nat.zero_le _, same_new hD _, [], upd_same, Nat.le_refl _, fun j e hj => absurd hj (Nat.not_lt_zero _)⟩, ?_⟩
  rintro i m' H1 ⟨rfl, hi, s1, kvs, hk, hl, hall⟩
  have hul := hB.2.len
  by_cases c : i < us.length
  · refine .inr ⟨⟨us, us[i], SqT.of (s1 _ _ hB.1), List.getElem?_eq_getElem c⟩, fun H' => i + 1 ≤ us.length ∧ Same H H' ∧ ∃ kvs, H' D = some (.dK kvs) ∧ kvs.length ≤ i + 1 ∧ ∀ j e, j < i + 1 → es[j]? = some e → ∃ qa r b, valV kvs (Sum.inr e.1) = some (.ref qa) ∧ H' qa = some (.tup [.ref r, .ref b]) ∧ H' r = some (.tup (e.2.1.map V.str)) ∧ At H' e.2.2 b,
      fun H' h => ⟨us.length - (i + 1), by omega, rfl, h⟩, fun x H' hy => ?_⟩
    obtain ⟨e', hx⟩ := hy
    subst e'
    have hx := hx us (SqT.of (s1 _ _ hB.1))
    obtain ⟨e, he, qe, r, b, rfl, g1, g2, g3⟩ := hB.2.get hx
    refine ⟨qe, _, rfl, SqT.of (s1 _ _ g1), rfl, _, _, rfl, _, _, rfl, _, _, rfl, rfl, rfl, ?_⟩
    dsimp only [tYes]
    rw [if_pos rfl]
    refine ⟨_, rfl, _, rfl, _, rfl, by show 2 ≤ sizeLine; decide, fun t ht => ?_⟩
    have s2 := same_new ht (.tup [.ref r, .ref b])
    have hk2 := s2 _ _ hk
    refine ⟨kvs, Sum.inr e.1, rfl, hk2, big (by omega), c, same_mut (s1.trans s2) hD, putK kvs (Sum.inr e.1) (.ref t), upd_same, Nat.le_trans (length_putK _ _ _) (Nat.succ_le_succ hl), fun j e' hj he' => ?_⟩
    have tk : TK (upd H' t (.tup [.ref r, .ref b])) (upd (upd H' t (.tup [.ref r, .ref b])) D (.dK (putK kvs (Sum.inr e.1) (.ref t)))) := tk_upd hk2 (by intro xs q; cases q)
    have tk2 := (tk_same s2).trans tk
    by_cases q : j = i
    · subst q
      rw [he] at he'
      cases he'
      exact ⟨t, r, b, by rw [valV_put, if_pos rfl], tk _ _ upd_same, tk2 _ _ (s1 _ _ g2), (g3.mono s1).tk tk2⟩
    · obtain ⟨qa, r', b', a1, a2, a3, a4⟩ := hall j e' (by omega) he'
      have ne : ¬ (Sum.inr e'.1 : Key) = Sum.inr e.1 := fun z => by
        have z' := Sum.inr.inj z
        have h1 : (es.map (·.1))[j]? = some e'.1 := by rw [List.getElem?_map, he']; rfl
        have h2 : (es.map (·.1))[i]? = some e.1 := by rw [List.getElem?_map, he]; rfl
        exact q (nd_ix hnd h1 (by rw [z']; exact h2))
      exact ⟨qa, r', b', by rw [valV_put, if_neg ne]; exact a1, tk2 _ _ a2, tk2 _ _ a3, a4.tk tk2⟩
  · have ei : i = us.length := by omega
    subst ei
    refine .inl ⟨⟨us, SqT.of (s1 _ _ hB.1), Nat.le_refl _⟩, ?_⟩
    have er : ErAt H1 es D := ⟨kvs, hk, fun e he => by
      obtain ⟨j, hj⟩ := List.mem_iff_getElem?.mp he
      exact hall j e (by rw [hul]; exact (List.getElem?_eq_some_iff.mp hj).1) hj⟩
    have nD : H0 D = none := s0.free hD
    have sm : Same H0 H1 := s0.trans s1
    have hp1 := s1 _ _ hp
    refine ⟨_, rfl, p, C, dx, [], rfl, hp1, X.clR, X.rErrands, (by show 0 < 1000; decide), ?_⟩
    refine ⟨_, rfl, _, rfl, p, C, dx, _, rfl, upd_same, X.clR, X.rMost, (by show 1 < 1000; decide), ?_⟩
    rw [upd_upd]
    have B0 : Bd C H0 es D p dx [] H1 [] := ⟨hp1, er, sm, fun l hl => (by cases hl)⟩
    have B1 := B0.set (fs' := putF "most" (.int m) (putF "errands" (.ref D) [])) n0
    refine ⟨Nat.zero_le _, fun tl htl => ?_⟩
    obtain ⟨B2, _⟩ := B1.new htl
    refine ⟨_, rfl, p, C, dx, _, rfl, B2.p, X.clR, X.rTrail, (by show 2 < 1000; decide), ?_⟩
    refine ⟨_, rfl, p, C, dx, _, rfl, upd_same, X.clR, X.rEnd, (by show 3 < 1000; decide), ?_⟩
    refine ⟨_, rfl, p, C, dx, _, rfl, upd_same, X.clR, X.rDeep, (by show 4 < 1000; decide), ?_⟩
    refine ⟨_, rfl, p, C, dx, _, rfl, upd_same, X.clR, X.rLeft, (by show 5 < 1000; decide), ?_⟩
    refine ⟨_, rfl, p, C, dx, _, rfl, upd_same, X.clR, X.rAsked, (by show 6 < 1000; decide), ?_⟩
    rw [upd_upd, upd_upd, upd_upd, upd_upd]
    refine ⟨Nat.zero_le _, fun sl hsl => ?_⟩
    have B3 := B2.set (fs' := putF "asked" (.int 0) (putF "left" (.int 0) (putF "deepest" (.int 0) (putF "end" .non (putF "trail" (.ref tl) (putF "most" (.int m) (putF "errands" (.ref D) []))))))) n0
    obtain ⟨B4, n4⟩ := B3.new hsl
    refine ⟨_, rfl, p, C, dx, _, rfl, B4.p, X.clR, X.rSteps, (by show 7 < 1000; decide), ?_⟩
    refine ⟨Nat.zero_le _, fun gl hgl => ?_⟩
    have B5 := B4.set (fs' := putF "steps" (.ref sl) (putF "asked" (.int 0) (putF "left" (.int 0) (putF "deepest" (.int 0) (putF "end" .non (putF "trail" (.ref tl) (putF "most" (.int m) (putF "errands" (.ref D) [])))))))) n0
    obtain ⟨B6, n6⟩ := B5.new hgl
    refine ⟨_, rfl, p, C, dx, _, rfl, B6.p, X.clR, X.rGot, (by show 8 < 1000; decide), ?_⟩
    have B7 := B6.set (fs' := fsR ⟨.ref D, .int m, .ref tl, .non, .int 0, .int 0, .int 0, .ref sl, .ref gl⟩) n0
    refine q _ ⟨dx, D, tl, sl, gl, .non, [], [], []⟩ ⟨B7.sm, n0, ⟨(B7.ls tl (by simp)).2, (B7.ls sl (by simp)).2, (B7.ls gl (by simp)).2⟩, fun a h => (by cases h), fun k h => (by cases h), B7.p, rfl, B7.er, (B7.ls tl (by simp)).1, trivial, Nat.zero_le _, (B7.ls gl (by simp)).1, Nat.zero_le _, (B7.ls sl (by simp)).1,
      trivial, trivial, List.nodup_nil, List.nodup_nil, fun k h => (by cases h), ⟨n4 tl (by simp), n6 tl (by simp), n6 sl (by simp)⟩⟩ rfl
end
end KB

namespace KB
open PySem L2 HT

/-! ### the book that is handed to run, and the run's beginning -/
theorem es_ok {H : Hp} {es : List Er} {us : List V} {p : Addr} (g : GdB es) (b : BkAt H es us p) : ∃ hd, EsOk es hd := by
  obtain ⟨hF, h1, h2⟩ := g.er
  refine ⟨hF, h1, fun e he => ?_, h2⟩
  obtain ⟨i, hi⟩ := List.mem_iff_getElem?.mp he
  have hlt : i < us.length := by
    rw [b.2.len]
    exact (List.getElem?_eq_some_iff.mp hi).1
  obtain ⟨e', h3, qa, r, ba, _, _, _, ha⟩ := b.2.get (List.getElem?_eq_getElem hlt)
  rw [hi] at h3
  cases h3
  exact ha.ar
theorem EsOk.hd {es : List Er} {hd : Str → Option Nat} (E : EsOk es hd) {e : Er} (he : e ∈ es) : hd e.1 = some e.2.1.length := (E.er e he).hf
theorem start_ok {es : List Er} {hd : Str → Option Nat} (E : EsOk es hd) {f : Str} {ns : List Int} {m : Nat} (hf : hd f = some ns.length) (hm : m ≤ 3000) :
    (WfC es hd (askC es (cf0 m) f ns 0) ∨ (askC es (cf0 m) f ns 0).fin ≠ .no) ∧ 5 + mu (askC es (cf0 m) f ns 0) ≤ 900000 := by
  have key := ask_ok E (c := cf0 m) (f := f) (ns := ns) (wt := 0) rfl (Nat.zero_le _) hf (show Bal [] 1 from rfl) (fun s hs => by cases hs)
  refine ⟨key.1.imp_right fun z y => (by rw [z] at y; cases y), ?_⟩
  have h : mu (cf0 m) = m * 100 + 0 + 1 := by
    show (m - 0) * 100 + 0 + 1 = _
    rfl
  have := key.2
  omega
/-- what a run comes to is one thing -/
theorem Rch.det {es : List Er} {c c1 : Cf} (h : Rch es c c1) : ∃ n : Nat, c1 = Nat.rec c (fun _ x => stepC es x) n := by
  induction h with
  | refl => exact ⟨0, rfl⟩
  | snoc _ _ ih =>
    obtain ⟨n, e⟩ := ih
    exact ⟨n + 1, by rw [e]⟩
end KB

namespace KB
open PySem L2 HT

theorem map_gi {ns : List Int} {j : Nat} {x : V} (h : (ns.map V.int)[j]? = some x) : ∃ z, ns[j]? = some z ∧ V.int z = x := by
  rw [List.getElem?_map] at h
  cases e : ns[j]? with
  | none =>
    rw [e] at h
    cases h
  | some z =>
    rw [e] at h
    exact ⟨z, rfl, Option.some.inj h⟩
/-- an own class of exceptions, over ValueError, without __init__ -/
structure XcT (K : PySem.W.Frag) (mg : Str → Option Value) (x : Str) (C : Addr) : Prop where
  g : mg x = some (.ref C)
  x : PySem.W.excIn K C [.type "ValueError", .type "Exception", .type "BaseException", .type "object"] "ValueError.__new__" = true
  k : PySem.W.keepIn K (.ref C) = true
  b : PySem.W.subIn K (.ref C) (.type "BaseException") = some true
  t : PySem.W.typeIn K (.ref C) = some (.type "type")
section
variable {P : Program} {w : World} {K : PySem.W.Frag} {mg : Str → Option Value} {base : Heap} {CN CM : Addr}
/-! ### is_whole -/
def spWhole : Sp := fun vs H Q _ => ∃ z : Int, vs = [.int z] ∧ Q (.bl true) H
abbrev sis_whole : Stmt := top 7
theorem scis_whole : FnScope ["thing"] ["thing"] (defScope sis_whole) := ⟨rfl, rfl, rfl, by decide +kernel, rfl, by decide +kernel, by decide +kernel⟩
theorem ok_whole (T : Txt K mg) {f : Addr} {fd : FuncData} (F : Fun K "is_whole" "is_whole" sis_whole f fd) : FnOk P w K mg base CX0 1 f fd ["thing"] spWhole := by
  refine F.ok scis_whole (fun vs H Q E h => ?_) (fun cdv A outer s H vs Q E hr h => ?_)
  · obtain ⟨z, rfl, _⟩ := h
    rfl
  obtain ⟨z, rfl, q⟩ := h
  refine ⟨_, (pss_one (ps_ret (pe_and (pe_callB call_isi (by rfl) T.m_isinstance (by decide +kernel) (pa_cons (pv 0) (pa_cons (pe_bltn (v := .ty "int") rfl T.m_int (by decide +kernel) rfl) pa_nil))) (pe_one (pe_not (pe_callB call_isi (by rfl) T.m_isinstance (by decide +kernel) (pa_cons (pv 0) (pa_cons (pe_bltn (v := .ty "bool") rfl T.m_bool (by decide +kernel) rfl) pa_nil)))))))), ?_⟩
  refine ⟨_, rfl, .int z, .ty "int", .type "int", .type "int", true, rfl, .ty "int", .base (.int z), kit_ty (by decide +kernel), _, rfl, ?_⟩
  refine itT rfl ⟨_, rfl, .int z, .ty "bool", .type "int", .type "bool", false, rfl, .ty "bool", .base (.int z), kit_ty (by decide +kernel), _, rfl, ?_⟩
  exact q
/-! ### errand_named, any name -/
def spNam : Sp := fun vs H Q _ => ∃ (p : Addr) (es : List Er) (us : List V) (f : Str), vs = [.ref p, .str f] ∧ BkAt H es us p ∧ (∀ e ∈ es, e.1 = f → ∀ v, ErV H e v → Q v H) ∧ ((∀ e ∈ es, e.1 ≠ f) → Q .non H)
theorem ok_nam {f : Addr} {fd : FuncData} (F : Fun K "errand_named" "errand_named" serrand_named f fd) : FnOk P w K mg base CX0 1 f fd ["book", "f"] spNam := by
  refine F.ok scerrand_named (fun vs H Q E h => ?_) (fun cdv A outer s H vs Q E hr h => ?_)
  · obtain ⟨p, es, us, f, rfl, _⟩ := h
    rfl
  obtain ⟨p, es, us, nm, rfl, hB, q1, q2⟩ := h
  refine ⟨_, (pss_cons (ps_for PassesOwn.never rfl (pi_tup (pv 0)) (pg_name (i := 2) scerrand_named.nd rfl (Or.inl rfl)) (pss_one (ps_if (pt_cmpR op_eq (pe_ix ix_tup (pv 2) pe_int (fun _ _ => rfl)) (pv 1) (nomark _)) (pss_one (ps_ret (pv 2))) pss_nil)))
    (pss_one (ps_ret pe_non))), ?_⟩
  refine ⟨_, rfl, p, rfl, ⟨_, SqT.of hB.1⟩, for_tup (xs := us) (fun j σ H' => ∃ o, σ = [some (.ref p), some (.str nm), o] ∧ H' = H ∧ ∀ i e, i < j → es[i]? = some e → e.1 ≠ nm) ⟨_, rfl, rfl, fun i e h => absurd h (Nat.not_lt_zero _)⟩ ?_ ?_ ?_⟩
  · rintro j σ H' _ ⟨o, rfl, rfl, _⟩
    exact SqT.of hB.1
  · rintro j x σ H' hx ⟨o, rfl, rfl, hj⟩
    obtain ⟨e, he, hev⟩ := hB.2.get hx
    obtain ⟨qa, r, b, rfl, g1, g2, g3⟩ := id hev
    refine ⟨_, rfl, qa, _, _, _, rfl, rfl, SqT.of g1, at0, _, rfl, rfl, _, rfl, ?_⟩
    by_cases c : e.1 = nm
    · exact itT (decide_eq_true (congrArg V.str c)) ⟨_, rfl, q1 e (mem_of_get he) c _ hev⟩
    · refine itF (decide_eq_false fun z => c (V.str.inj z)) ⟨_, rfl, rfl, fun i e' hi he' => ?_⟩
      by_cases z : i = j
      · subst z
        rw [he] at he'
        cases he'
        exact c
      · exact hj i e' (by omega) he'
  · rintro σ H' ⟨o, rfl, rfl, hj⟩
    refine q2 fun e he => ?_
    obtain ⟨i, hi⟩ := List.mem_iff_getElem?.mp he
    refine hj i e ?_ hi
    rw [hB.2.len]
    exact (List.getElem?_eq_some_iff.mp hi).1
/-! ### need_errand -/
def spNeedE (CN : Addr) : Sp := fun vs H Q E => ∃ (p : Addr) (es : List Er) (us : List V) (f : Str), vs = [.ref p, .str f] ∧ BkAt H es us p ∧ ((∃ e ∈ es, e.1 = f) → Q .non H) ∧ ((∀ e ∈ es, e.1 ≠ f) → E (.ref CN) none H)
abbrev sneed_errand : Stmt := top 17
theorem scneed_errand : FnScope ["book", "f"] ["book", "f"] (defScope sneed_errand) := ⟨rfl, rfl, rfl, by decide +kernel, rfl, by decide +kernel, by decide +kernel⟩
theorem ok_needE (X : XcT K mg "NoAsking" CN) {f f1 : Addr} {fd d1 : FuncData} (F : Fun K "need_errand" "need_errand" sneed_errand f fd)
    (Gerrand_named : FnOk P w K mg base CX0 1 f1 d1 ["book", "f"] spNam) (Rerrand_named : Ref K mg "errand_named" f1 d1 ["book", "f"]) : FnOk P w K mg base (L2.CX P w) 2 f fd ["book", "f"] (spNeedE CN) := by
  refine F.okX scneed_errand (fun vs H Q E h => ?_) (fun cdv A outer s H vs Q E hr h => ?_)
  · obtain ⟨p, es, us, f, rfl, _⟩ := h
    rfl
  obtain ⟨p, es, us, nm, rfl, hB, q1, q2⟩ := h
  refine ⟨_, (pss_one (ps_if (pt_cmpR op_isN (pe_call Gerrand_named (hr.mono (by omega)) rfl Rerrand_named.m Rerrand_named.k Rerrand_named.b .nil pass0 (pa_cons (pv 0) (pa_cons (pv 1) pa_nil))) pe_non (nomark _)) (pss_one (ps_raise rfl (takes_of rfl rfl rfl rfl) (pmk_own PySem.F.excBase_ValueError X.x X.g X.k (raises_own X.b X.t) rfl))) pss_nil)), ?_⟩
  refine ⟨_, rfl, _, rfl, p, es, us, nm, rfl, hB, fun e he hn v hv => ?_, fun hno => ?_⟩
  · obtain ⟨qa, r, b, rfl, g1, g2, g3⟩ := hv
    exact ⟨rfl, _, rfl, itF (decide_eq_false (by intro z; cases z)) (q1 ⟨e, he, hn⟩)⟩
  · exact ⟨rfl, _, rfl, itT (decide_eq_true rfl) (q2 hno)⟩
/-! ### need_asking -/
def spNeed (CN : Addr) : Sp := fun vs H Q E => ∃ (p nb : Addr) (es : List Er) (us : List V) (f : Str) (ns : List Int), vs = [.ref p, .str f, .ref nb] ∧ BkAt H es us p ∧ (es.map (·.1)).Nodup ∧ H nb = some (.tup (ns.map V.int)) ∧ ns.length ≤ 100 ∧ (∀ e ∈ es, e.2.1.length ≤ 100) ∧
  ((∃ e ∈ es, e.1 = f ∧ e.2.1.length = ns.length) → ∀ H', Same H H' → Q .non H') ∧ ((∀ e ∈ es, e.1 = f → e.2.1.length ≠ ns.length) → ∀ H', Same H H' → E (.ref CN) none H')
abbrev sneed_asking : Stmt := top 18
theorem scneed_asking : FnScope ["book", "f", "numbers", "errand", "number"] ["book", "f", "numbers"] (defScope sneed_asking) := ⟨rfl, rfl, rfl, by decide +kernel, rfl, by decide +kernel, by decide +kernel⟩
theorem ok_need (T : Txt K mg) {f f1 f2 f3 : Addr} {fd d1 d2 d3 : FuncData} (X : XcT K mg "NoAsking" CN) (F : Fun K "need_asking" "need_asking" sneed_asking f fd)
    (Gneed_errand : FnOk P w K mg base (L2.CX P w) 2 f3 d3 ["book", "f"] (spNeedE CN)) (Rneed_errand : Ref K mg "need_errand" f3 d3 ["book", "f"])
    (Gerrand_named : FnOk P w K mg base CX0 1 f1 d1 ["book", "f"] spNam) (Rerrand_named : Ref K mg "errand_named" f1 d1 ["book", "f"])
    (Gis_whole : FnOk P w K mg base CX0 1 f2 d2 ["thing"] spWhole) (Ris_whole : Ref K mg "is_whole" f2 d2 ["thing"]) : FnOk P w K mg base (L2.CX P w) 3 f fd ["book", "f", "numbers"] (spNeed CN) := by
  refine F.okX scneed_asking (fun vs H Q E h => ?_) (fun cdv A outer s H vs Q E hr h => ?_)
  · obtain ⟨p, nb, es, us, f, ns, rfl, _⟩ := h
    rfl
  obtain ⟨p, nb, es, us, nm, ns, rfl, hB, hnd, hnb, hl, hle, q1, q2⟩ := h
  have tk : Takes (cxOf (L2.CX P w) P w K mg base ["book", "f", "numbers", "errand", "number"] "need_asking" (defScope sneed_asking) f cdv A outer s H E) (fun cls d σ H' => E cls d H') := takes_of rfl rfl rfl rfl
  refine ⟨_, (pss_cons (ps_expr (pe_callS Gneed_errand (hr.mono (by omega)) rfl Rneed_errand.m Rneed_errand.k Rneed_errand.b (fun σ => passAt tk σ) (pa_cons (pv 0) (pa_cons (pv 1) pa_nil)))) (pss_cons (ps_set (i := 3) scneed_asking.nd rfl (Or.inl rfl) (pe_call Gerrand_named (hr.mono (by omega)) rfl Rerrand_named.m Rerrand_named.k Rerrand_named.b .nil pass0 (pa_cons (pv 0) (pa_cons (pv 1) pa_nil))))
    (pss_cons (ps_if (PW.pt (pw_or (pt_not (pt_val (pe_callB call_isi (by rfl) T.m_isinstance (by decide +kernel) (pa_cons (pv 2) (pa_cons (pe_bltn (v := .ty "tuple") rfl T.m_tuple (by decide +kernel) rfl) pa_nil))))) (pw_or1 (pt_not (pt_val (pe_callB (cr_all rfl) (by rfl) T.m_all (by decide +kernel) (pa_cons (pe_lc (own := [("number", 4)]) (g := gName 4) (by rfl) scneed_asking.nd (pi_tup (pv 2)) (blkOk_by (own := [("number", 4)]) (N := ["book", "f", "numbers", "errand", "number"]) (sc := defScope sneed_asking) (by decide +kernel)) (fun _ _ _ _ _ => (pg_name (i := 4) scneed_asking.nd rfl (Or.inl rfl))) (fun _ _ _ _ _ => pts_nil) (fun _ _ _ _ _ => (pe_call Gis_whole (hr.mono (by omega)) rfl Ris_whole.m Ris_whole.k Ris_whole.b .nil pass0 (pa_cons (pv 4) pa_nil)))) pa_nil))))))) (pss_one (ps_raise rfl (takes_of rfl rfl rfl rfl) (pmk_own PySem.F.excBase_ValueError X.x X.g X.k (raises_own X.b X.t) rfl))) pss_nil)
    (pss_one (ps_if (pt_cmpR op_ne (pe_callB call_len_seq (by rfl) T.m_len PySem.boot_len (pa_cons (pv 2) pa_nil)) (pe_callB call_len_seq (by rfl) T.m_len PySem.boot_len (pa_cons (pe_ix ix_tup (pv 3) pe_int (fun _ _ => rfl)) pa_nil)) (nomark _)) (pss_one (ps_raise rfl (takes_of rfl rfl rfl rfl) (pmk_own PySem.F.excBase_ValueError X.x X.g X.k (raises_own X.b X.t) rfl))) pss_nil))))), ?_⟩
  refine ⟨_, rfl, _, rfl, p, es, us, nm, rfl, hB, fun hyes => ?_, fun hno => q2 (fun e he hn => absurd hn (hno e he)) _ (Same.refl H)⟩
  refine ⟨_, rfl, _, rfl, p, es, us, nm, rfl, hB, fun e he hn v hv => ?_, fun hno => ?_⟩
  · obtain ⟨qa, r, b, rfl, g1, g2, g3⟩ := hv
    refine ⟨_, rfl, .ref nb, .ty "tuple", .type "tuple", .type "tuple", true, rfl, .ty "tuple", .base (.tup hnb), kit_ty (by decide +kernel), _, rfl, ?_⟩
    refine iteF ?_
    refine ⟨_, rfl, nb, rfl, ⟨_, SqT.of hnb⟩, fun D hD => lc_tup (K := K) (a := nb) (xs := ns.map V.int) (fun j H' => Same H H' ∧ H' D = some (.lst (((ns.take j).map fun _ => true).map V.bl))) ⟨same_new hD _, upd_same⟩ ?_ ?_ ?_⟩
    · rintro j H' _ ⟨s1, _⟩
      exact SqT.of (s1 _ _ hnb)
    · rintro j x H1 hx ⟨s1, h1⟩
      obtain ⟨z, hz, rfl⟩ := map_gi hx
      obtain ⟨hj, hj2⟩ := List.getElem?_eq_some_iff.mp hz
      refine ⟨rfl, ?_⟩
      dsimp only [tYes]
      refine iteT ⟨_, rfl, z, rfl, _, h1, Nat.lt_of_le_of_lt (m := 100) ?_ (by decide), same_mut s1 hD, ?_⟩
      · rw [List.length_map, List.length_map, List.length_take]
        omega
      · rw [upd_same, List.take_succ_eq_append_getElem hj, List.map_append, List.map_append]
        rfl
    · rintro H1 ⟨s1, h1⟩
      refine ⟨D, _, rfl, SqL.of h1, _, rfl, ?_⟩
      have eall : (((ns.take (ns.map V.int).length).map fun _ => true).all id) = true := by
        rw [List.all_map]
        exact List.all_eq_true.mpr fun _ _ => rfl
      refine itF (by rw [eall]; rfl) ?_
      refine ⟨_, rfl, nb, _, rfl, .inr (SqT.of (s1 _ _ hnb)), _, rfl, qa, _, _, _, rfl, rfl, SqT.of (s1 _ _ g1), at1, r, _, rfl, .inr (SqT.of (s1 _ _ g2)), rfl, _, rfl, ?_⟩
      rw [List.length_map, List.length_map]
      by_cases c : e.2.1.length = ns.length
      · exact itF (by rw [c]; simp) (q1 ⟨e, he, hn, c⟩ _ s1)
      · refine itT (by simp; omega) ?_
        refine q2 (fun e' he' hn' => ?_) _ s1
        have : e' = e := by
          obtain ⟨i, hi⟩ := List.mem_iff_getElem?.mp he
          obtain ⟨j, hj⟩ := List.mem_iff_getElem?.mp he'
          have h1 : (es.map (·.1))[j]? = some nm := by rw [List.getElem?_map, hj]; exact congrArg some hn'
          have h2 : (es.map (·.1))[i]? = some nm := by rw [List.getElem?_map, hi]; exact congrArg some hn
          have := nd_ix hnd h1 h2
          subst this
          rw [hi] at hj
          exact (Option.some.inj hj).symm
        rw [this]
        exact c
  · obtain ⟨e, he, hn⟩ := hyes
    exact absurd hn (hno e he)
/-! ### need_most -/
def spMost (CM : Addr) : Sp := fun vs H Q E => ∃ (m : Int), vs = [.int m, .int 0, .int 3000] ∧ (0 ≤ m ∧ m ≤ 3000 → Q .non H) ∧ (¬ (0 ≤ m ∧ m ≤ 3000) → E (.ref CM) none H)
abbrev sneed_most : Stmt := top 19
theorem scneed_most : FnScope ["most", "least", "greatest"] ["most", "least", "greatest"] (defScope sneed_most) := ⟨rfl, rfl, rfl, by decide +kernel, rfl, by decide +kernel, by decide +kernel⟩
theorem ok_most (X : XcT K mg "NoMost" CM) {f f2 : Addr} {fd d2 : FuncData} (F : Fun K "need_most" "need_most" sneed_most f fd)
    (Gis_whole : FnOk P w K mg base CX0 1 f2 d2 ["thing"] spWhole) (Ris_whole : Ref K mg "is_whole" f2 d2 ["thing"]) : FnOk P w K mg base (L2.CX P w) 2 f fd ["most", "least", "greatest"] (spMost CM) := by
  refine F.okX scneed_most (fun vs H Q E h => ?_) (fun cdv A outer s H vs Q E hr h => ?_)
  · obtain ⟨m, rfl, _⟩ := h
    rfl
  obtain ⟨m, rfl, q1, q2⟩ := h
  refine ⟨_, (pss_one (ps_if (PW.pt (pw_or (pt_not (pt_val (pe_call Gis_whole (hr.mono (by omega)) rfl Ris_whole.m Ris_whole.k Ris_whole.b .nil pass0 (pa_cons (pv 0) pa_nil)))) (pw_or1 (pt_not (pt_chain op_le op_le (pv 1) (pv 0) (pv 2)))))) (pss_one (ps_raise rfl (takes_of rfl rfl rfl rfl) (pmk_own PySem.F.excBase_ValueError X.x X.g X.k (raises_own X.b X.t) rfl))) pss_nil)), ?_⟩
  refine ⟨_, rfl, m, rfl, _, rfl, ?_⟩
  refine iteF ⟨_, rfl, _, rfl, _, _, rfl, rfl, _, rfl, ?_⟩
  by_cases c1 : 0 ≤ m
  · refine itT (decide_eq_true c1) ⟨_, rfl, _, _, rfl, rfl, _, rfl, ?_⟩
    by_cases c2 : m ≤ 3000
    · exact itF (by rw [decide_eq_true c2]; rfl) (q1 ⟨c1, c2⟩)
    · exact itT (by rw [decide_eq_false c2]; rfl) (q2 fun z => c2 z.2)
  · exact itF (decide_eq_false c1) ⟨_, rfl, itT rfl (q2 fun z => c1 z.1)⟩
end
end KB

namespace KB
open PySem L2 HT

section
variable {P : Program} {w : World} {K : PySem.W.Frag} {mg : Str → Option Value} {base : Heap} {CA CS C CN CM : Addr}
/-! ### run -/
def spRun (CN CM : Addr) : Sp := fun vs H Q E => ∃ (bk nb : Addr) (es : List Er) (us : List V) (hd : Str → Option Nat) (f : Str) (ns : List Int) (m : Int), vs = [.ref bk, .str f, .ref nb, .int m] ∧ BkAt H es us bk ∧ es.length ≤ 6 ∧ (es.map (·.1)).Nodup ∧ EsOk es hd ∧ H nb = some (.tup (ns.map V.int)) ∧
  ns.length ≤ 100 ∧ (∀ e ∈ es, e.2.1.length ≤ 100) ∧
  ((∃ e ∈ es, e.1 = f ∧ e.2.1.length = ns.length) → 0 ≤ m ∧ m ≤ 3000 → ∀ H' q tl tv ev c, Same H H' → H' q = some (.tup [.ref tl, ev, .int c.deepest, .int c.left]) → H tl = none → H' tl = some (.lst tv) → All2 (EvV H') c.trail tv → FeV H' c.fin ev → c.fin ≠ .no →
    Rch es (askC es (cf0 m.toNat) f ns 0) c → Q (.ref q) H') ∧
  ((∀ e ∈ es, e.1 = f → e.2.1.length ≠ ns.length) → ∀ H', Same H H' → E (.ref CN) none H') ∧
  ((∃ e ∈ es, e.1 = f ∧ e.2.1.length = ns.length) → ¬ (0 ≤ m ∧ m ≤ 3000) → ∀ H', Same H H' → E (.ref CM) none H')
abbrev srun : Stmt := top 25
theorem scrun : FnScope ["book", "f", "numbers", "most", "running"] ["book", "f", "numbers", "most"] (defScope srun) := ⟨rfl, rfl, rfl, by decide +kernel, rfl, by decide +kernel, by decide +kernel⟩
theorem ok_run (X : TxR K mg CA CS C) (hM : ∃ t, mg "MOST_ASKS" = some (.int 3000 t)) {f f1 f2 f0 fa fg : Addr} {fd d1 d2 d0 da dg : FuncData} (F : Fun K "run" "run" srun f fd)
    (G1 : FnOk P w K mg base (L2.CX P w) 3 f1 d1 ["book", "f", "numbers"] (spNeed CN)) (R1 : Ref K mg "need_asking" f1 d1 ["book", "f", "numbers"])
    (G2 : FnOk P w K mg base (L2.CX P w) 2 f2 d2 ["most", "least", "greatest"] (spMost CM)) (R2 : Ref K mg "need_most" f2 d2 ["most", "least", "greatest"])
    (MR : Mk K C f0) (G0 : FnOk P w K mg base CX0 1 f0 d0 ["self", "book", "most"] (spRun0 CA CS C)) (b0 : Binds K d0 ["self", "book", "most"] [])
    (GA : FnOk P w K mg base CX0 3 fa da ["self", "f", "numbers", "waiting"] (spAskM CA CS C)) (bA : Binds K da ["self", "f", "numbers", "waiting"] []) (mA : Meth K C "ask" fa)
    (GG : FnOk P w K mg base CX0 6 fg dg ["self"] (spGo CA CS C)) (bG : Binds K dg ["self"] []) (mG : Meth K C "go" fg) :
    FnOk P w K mg base (L2.CX P w) 7 f fd ["book", "f", "numbers", "most"] (spRun CN CM) := by
  refine F.okX scrun (fun vs H Q E h => ?_) (fun cdv A outer s H vs Q E hr h => ?_)
  · obtain ⟨bk, nb, es, us, hd, f, ns, m, rfl, _⟩ := h
    rfl
  obtain ⟨bk, nb, es, us, hd, nm, ns, m, rfl, hB, h6, hnd, E0, hnb, hl, hle, q1, q2, q3⟩ := h
  obtain ⟨tM, mM⟩ := hM
  have tk : Takes (cxOf (L2.CX P w) P w K mg base ["book", "f", "numbers", "most", "running"] "run" (defScope srun) f cdv A outer s H E) (fun cls d σ H' => E cls d H') := takes_of rfl rfl rfl rfl
  refine ⟨_, (pss_cons (ps_expr (pe_callS G1 (hr.mono (by omega)) rfl R1.m R1.k R1.b (fun σ => passAt tk σ) (pa_cons (pv 0) (pa_cons (pv 1) (pa_cons (pv 2) pa_nil)))))
    (pss_cons (ps_expr (pe_callS G2 (hr.mono (by omega)) rfl R2.m R2.k R2.b (fun σ => passAt tk σ) (pa_cons (pv 3) (pa_cons pe_int (pa_cons (pe_glob (v := .int 3000) rfl mM ⟨_, rfl⟩) pa_nil)))))
    (pss_cons (ps_set (i := 4) scrun.nd rfl (Or.inl rfl) (pe_make MR G0 (hr.mono (by omega)) rfl X.mgR b0 .nil pass0 (pa_cons (pv 0) (pa_cons (pv 3) pa_nil))))
    (pss_cons (ps_expr (pe_meth (pv 4) X.clR mA GA (hr.mono (by omega)) bA .nil pass0 (pa_cons (pv 1) (pa_cons (pv 2) (pa_cons pe_int pa_nil)))))
    (pss_cons (ps_expr (pe_meth0 (pv 4) X.clR mG GG (hr.mono (by omega)) bG .nil pass0))
    (pss_one (ps_ret (pe_tup (pa_cons (pe_fld (pv 4) rfl) (pa_cons (pe_fld (pv 4) rfl) (pa_cons (pe_fld (pv 4) rfl) (pa_cons (pe_fld (pv 4) rfl) pa_nil)))))))))))), ?_⟩
  refine ⟨_, rfl, _, rfl, _, rfl, bk, nb, es, us, nm, ns, rfl, hB, hnd, hnb, hl, hle, fun hyes H1 s1 => ?_, fun hno H1 s1 => q2 hno _ s1⟩
  refine ⟨_, rfl, m, rfl, fun hm => ?_, fun hm => q3 hyes hm _ s1⟩
  obtain ⟨e, he, hn, hlen⟩ := hyes
  have hf : hd nm = some ns.length := by rw [← hn, E0.hd he, hlen]
  obtain ⟨k, rfl⟩ : ∃ k : Nat, m = (k : Int) := ⟨m.toNat, by omega⟩
  have hk : k ≤ 3000 := by omega
  rw [Int.toNat_natCast] at q1
  refine ⟨_, rfl, _, rfl, fun x dx hx hdx hne => ?_⟩
  have sm : Same H1 (upd (upd H1 dx (.own x)) x (.ins C dx [])) := (same_new hdx (.own x)).trans (same_new (by rw [upd_ne hne.symm]; exact hx) (.ins C dx []))
  refine ⟨H1, es, us, x, dx, bk, k, rfl, sm, hx, upd_same, hB.tk (tk_same (s1.trans sm)), h6, hnd, fun H2 d R hsa => ⟨rfl, ?_⟩⟩
  -- running.ask(f, numbers, 0)
  have hnb2 := R.same _ _ (s1 _ _ hnb)
  refine ⟨_, rfl, x, _, _, rfl, R.ob, l_no_ask _, _, rfl, _, rfl, H1, es, hd, 4, x, cf0 k, d, nm, nb, ns, 0, rfl, R, rfl, E0, hf, hnb2, by decide, by rw [hsa]; decide, by decide, fun H3 d3 R3 => ?_⟩
  have hst := start_ok E0 (f := nm) (ns := ns) hf hk
  refine ⟨_, rfl, x, _, _, rfl, R3.ob, l_no_go _, H1, es, hd, 5, x, _, d3, rfl, R3, hst.1, E0, hst.2, by decide, fun H4 sz4 c4 d4 R4 hfin hr4 => ?_⟩
  refine ⟨_, rfl, x, C, _, _, _, rfl, R4.ob, X.clR, X.rTrail, l_trail _, _, rfl, x, C, _, _, _, rfl, R4.ob, X.clR, X.rEnd, l_end _, _, rfl, x, C, _, _, _, rfl, R4.ob, X.clR, X.rDeep, l_deep _, _, rfl, x, C, _, _, _, rfl, R4.ob, X.clR, X.rLeft, l_left _, sz (by show 4 ≤ 100000; decide), fun q hq => ?_⟩
  have s5 := same_new hq (.tup [.ref d4.tl, d4.ev, .int c4.deepest, .int c4.left])
  refine q1 ⟨e, he, hn, hlen⟩ hm _ q d4.tl d4.tv d4.ev c4 (s1.trans (R4.same.trans s5)) upd_same ?_ (s5 _ _ R4.tr) (R4.te.imp fun _ _ z => z.tk (tk_same s5)) (R4.ev.tk (tk_same s5)) hfin hr4
  exact s1.free R4.fr.1
end
end KB

namespace KB
open PySem L2 HT

/-! ### what a run's beginning tells of a longer one -/
def setM (m : Nat) (c : Cf) : Cf := ⟨m, c.asked, c.trail, c.fin, c.deepest, c.left, c.steps, c.got, c.asks⟩
def isAskE : Ev → Bool
  | .ask _ _ => true
  | .tell _ => false
def nAsk (t : List Ev) : Nat := (t.filter isAskE).length
theorem nAsk_app (a b : List Ev) : nAsk (a ++ b) = nAsk a + nAsk b := by
  unfold nAsk
  rw [List.filter_append, List.length_append]
theorem setM_self (c : Cf) : setM c.most c = c := rfl
/-- a step that asks nothing -/
def StA (es : List Er) (c : Cf) : Prop := ∃ X : Cf, (∀ m, stepC es (setM m c) = setM m X) ∧ (∃ t, X.trail = c.trail ++ t ∧ nAsk t = 0 ∧ t.length ≤ 1) ∧ X.asked = c.asked ∧ X.deepest = c.deepest ∧ c.left ≤ X.left ∧ X.fin ≠ .long
/-- a step that asks -/
def StB (es : List Er) (c : Cf) : Prop := ∃ (c0 : Cf) (f : Str) (ns : List Int) (wt : Int) (e : Er), (∀ m, stepC es (setM m c) = askC es (setM m c0) f ns wt) ∧ c0.trail = c.trail ∧ c0.asked = c.asked ∧ c0.deepest = c.deepest ∧ c.left ≤ c0.left ∧ c0.fin = .no ∧
  es.find? (fun e => decide (e.1 = f)) = some e ∧ e.2.1.length = ns.length
theorem left_le (c : Cf) (s : Fr) : c.left ≤ leftC c s := by
  unfold leftC
  by_cases h : s.led = true
  · rw [if_pos h]
    exact Int.le_refl _
  · rw [if_neg h]
    omega
theorem step_kind {es : List Er} {hd : Str → Option Nat} (E : EsOk es hd) {c : Cf} (w : WfC es hd c) : StA es c ∨ StB es c := by
  have hgo := w.go
  cases e : c.steps with
  | nil =>
    refine .inl ⟨⟨c.most, c.asked, c.trail, .done (c.got.getD 0 0), c.deepest, c.left, c.steps, c.got.drop 1, c.asks⟩, fun m => ?_, ⟨[], (List.append_nil _).symm, rfl, Nat.zero_le _⟩, rfl, rfl, Int.le_refl _, fun z => by cases z⟩
    unfold stepC
    show (match c.steps with | [] => _ | s :: r => _) = _
    rw [e]
    unfold setM
    rw [e]
  | cons s r =>
    cases hb : s.begun with
    | false =>
      have hs : ∀ m, stepC es (setM m c) = beginC (setM m c) s r := fun m => by
        unfold stepC
        show (match c.steps with | [] => _ | s :: r => _) = _
        rw [e]
        show (if s.begun = true then _ else _) = _
        rw [hb, if_neg Bool.false_ne_true]
      exact .inl ⟨beginC c s r, fun m => (hs m).trans rfl, ⟨[], (List.append_nil _).symm, rfl, Nat.zero_le _⟩, rfl, rfl, Int.le_refl _, fun z => by
        have z' : c.fin = .long := z
        rw [hgo] at z'
        cases z'⟩
    | true =>
      have hs : ∀ m, stepC es (setM m c) = finC es ⟨m, c.asked, c.trail, c.fin, c.deepest, c.left, r, c.got, c.asks⟩ s := fun m => by
        unfold stepC
        show (match c.steps with | [] => _ | s :: r => _) = _
        rw [e]
        show (if s.begun = true then _ else _) = _
        rw [hb, if_pos rfl]
        rfl
      have nl : ∀ X : Cf, X.fin = c.fin → X.fin ≠ .long := fun X h z => by
        rw [h, hgo] at z
        cases z
      have mkA : ∀ X : Cf, (∀ m, finC es ⟨m, c.asked, c.trail, c.fin, c.deepest, c.left, r, c.got, c.asks⟩ s = setM m X) → (∃ t, X.trail = c.trail ++ t ∧ nAsk t = 0 ∧ t.length ≤ 1) → X.asked = c.asked → X.deepest = c.deepest → c.left ≤ X.left → X.fin = c.fin → StA es c :=
        fun X h1 h2 h3 h4 h5 h6 => ⟨X, fun m => (hs m).trans (h1 m), h2, h3, h4, h5, nl X h6⟩
      have nil0 : ∃ t, c.trail = c.trail ++ t ∧ nAsk t = 0 ∧ t.length ≤ 1 := ⟨[], (List.append_nil _).symm, rfl, Nat.zero_le _⟩
      cases hh : hdT s.t with
      | num z =>
        exact .inl (mkA ⟨c.most, c.asked, c.trail, c.fin, c.deepest, c.left, r, z :: c.got, c.asks⟩ (fun m => by unfold finC; rw [hh]; rfl) nil0 rfl rfl (Int.le_refl _) rfl)
      | nam x =>
        exact .inl (mkA ⟨c.most, c.asked, c.trail, c.fin, c.deepest, c.left, r, (envAt c s.k x).getD 0 :: c.got, c.asks⟩ (fun m => by unfold finC; rw [hh]; rfl) nil0 rfl rfl (Int.le_refl _) rfl)
      | plus =>
        exact .inl (mkA ⟨c.most, c.asked, c.trail, c.fin, c.deepest, c.left, r, Int.fmod (c.got.getD 1 0 + c.got.getD 0 0) 1000 :: c.got.drop 2, c.asks⟩ (fun m => by unfold finC; rw [hh]; rfl) nil0 rfl rfl (Int.le_refl _) rfl)
      | less =>
        exact .inl (mkA ⟨c.most, c.asked, c.trail, c.fin, c.deepest, c.left, r, Int.fmod (c.got.getD 1 0 - c.got.getD 0 0) 1000 :: c.got.drop 2, c.asks⟩ (fun m => by unfold finC; rw [hh]; rfl) nil0 rfl rfl (Int.le_refl _) rfl)
      | tell =>
        exact .inl (mkA ⟨c.most, c.asked, c.trail ++ [.tell (c.got.getD 0 0)], c.fin, c.deepest, c.left, r, c.got, c.asks⟩ (fun m => by unfold finC; rw [hh]; rfl) ⟨_, rfl, rfl, Nat.le_refl _⟩ rfl rfl (Int.le_refl _) rfl)
      | lett x =>
        exact .inl (mkA ⟨c.most, c.asked, c.trail, c.fin, c.deepest, c.left, ⟨kid s.t 1, s.k, s.led, s.last, false⟩ :: r, c.got.drop 1, putA c.asks s.k x (c.got.getD 0 0)⟩ (fun m => by unfold finC; rw [hh]; rfl) nil0 rfl rfl (Int.le_refl _) rfl)
      | iff =>
        exact .inl (mkA ⟨c.most, c.asked, c.trail, c.fin, c.deepest, leftC c s, ⟨if c.got.getD 0 0 = 0 then kid s.t 2 else kid s.t 1, s.k, true, s.last, false⟩ :: r, c.got.drop 1, c.asks⟩ (fun m => by unfold finC; rw [hh]; rfl) nil0 rfl rfl (left_le c s) rfl)
      | ask f =>
        have fr := w.fr s (by rw [e]; exact List.mem_cons_self)
        obtain ⟨xs, hsc, _⟩ := fr.sc
        have hfd : hd f = some (kidsT s.t).length := by
          cases ht : s.t with
          | mk h n k =>
            rw [ht] at hsc hh
            have hh : h = .ask f := hh
            subst hh
            rw [kids_len]
            exact hsc.1
        have hbal := bal_begun hb (by rw [← e]; exact w.bal)
        have hfl := first_len fr.ar
        rw [hh] at hfl
        have hfl : (firstT s.t).length = (kidsT s.t).length := hfl
        have hlen : (c.got.take (kidsT s.t).length).reverse.length = (kidsT s.t).length := by
          rw [List.length_reverse, List.length_take]
          omega
        obtain ⟨er, h1, _, _, h4, _⟩ := E.found hfd
        exact .inr ⟨⟨c.most, c.asked, c.trail, c.fin, c.deepest, leftC c s, r, c.got.drop (kidsT s.t).length, c.asks⟩, f, (c.got.take (kidsT s.t).length).reverse, (if s.last = true then waitAt c s.k else waitAt c s.k + 1), er,
          fun m => (hs m).trans (by unfold finC; rw [hh]; rfl), rfl, rfl, rfl, left_le c s, hgo, h1, by rw [hlen]; exact h4⟩
/-- a state that a run comes to -/
structure GoC (es : List Er) (hd : Str → Option Nat) (m : Nat) (c : Cf) : Prop where
  wf : WfC es hd c ∨ c.fin ≠ .no
  mo : c.most = m
  ca : c.asked = nAsk c.trail
  le : c.asked ≤ m
  lg : c.fin = .long → c.asked = m
  ev : ∀ g ks, Ev.ask g ks ∈ c.trail → g ∈ es.map (·.1)
  ln : c.trail.length + mu c ≤ 900000
theorem ask_cases {es : List Er} {c0 : Cf} {f : Str} {ns : List Int} {wt : Int} {e : Er} (hf : es.find? (fun e => decide (e.1 = f)) = some e) :
    (c0.asked = c0.most ∧ askC es c0 f ns wt = ⟨c0.most, c0.asked, c0.trail, .long, c0.deepest, c0.left, c0.steps, c0.got, c0.asks⟩) ∨
    (c0.asked ≠ c0.most ∧ askC es c0 f ns wt = ⟨c0.most, c0.asked + 1, c0.trail ++ [.ask f ns], c0.fin, max c0.deepest wt, c0.left, ⟨e.2.2, c0.asks.length, true, true, false⟩ :: c0.steps, c0.got, c0.asks ++ [(envOf e.2.1 ns, wt)]⟩) := by
  unfold askC
  by_cases h : c0.asked = c0.most
  · exact .inl ⟨h, by rw [if_pos h]⟩
  · exact .inr ⟨h, by rw [if_neg h, hf]⟩
theorem find_mem {es : List Er} {f : Str} {e : Er} (hf : es.find? (fun e => decide (e.1 = f)) = some e) : f ∈ es.map (·.1) := by
  have h1 := List.mem_of_find?_eq_some hf
  have h2 : e.1 = f := of_decide_eq_true (List.find?_some (p := fun e : Er => decide (e.1 = f)) hf)
  rw [← h2]
  exact List.mem_map_of_mem (f := fun x : Er => x.1) h1
end KB

namespace KB
open PySem L2 HT

theorem go_start {es : List Er} {hd : Str → Option Nat} (E : EsOk es hd) {f : Str} {ns : List Int} {m : Nat} (hf : hd f = some ns.length) (hm : m ≤ 3000) : GoC es hd m (askC es (cf0 m) f ns 0) := by
  obtain ⟨e, h1, _, _, h4, _⟩ := E.found hf
  have hst := start_ok E hf hm
  rcases ask_cases (c0 := cf0 m) (ns := ns) (wt := 0) h1 with ⟨ha, q⟩ | ⟨ha, q⟩
  · refine ⟨hst.1, by rw [q]; rfl, by rw [q]; rfl, by rw [q]; exact Nat.zero_le _, fun _ => by rw [q]; exact ha, fun g ks h => ?_, ?_⟩
    · rw [q] at h
      cases h
    · have : (askC es (cf0 m) f ns 0).trail.length = 0 := by rw [q]; rfl
      omega
  · refine ⟨hst.1, by rw [q]; rfl, by rw [q]; rfl, ?_, fun z => ?_, fun g ks h => ?_, ?_⟩
    · rw [q]
      have : (0 : Nat) ≠ m := ha
      show 0 + 1 ≤ m
      omega
    · rw [q] at z
      cases z
    · rw [q] at h
      have h' : Ev.ask g ks ∈ [Ev.ask f ns] := h
      rw [List.mem_singleton] at h'
      cases h'
      exact find_mem h1
    · have : (askC es (cf0 m) f ns 0).trail.length = 1 := by rw [q]; rfl
      omega
theorem go_step {es : List Er} {hd : Str → Option Nat} (E : EsOk es hd) {m : Nat} {c : Cf} (g : GoC es hd m c) (hn : c.fin = .no) : GoC es hd m (stepC es c) := by
  have w : WfC es hd c := g.wf.resolve_right fun z => z hn
  obtain ⟨w1, w2⟩ := wf_step E w
  have hln := g.ln
  have hmo := g.mo
  rcases step_kind E w with ⟨X, h1, ⟨t, h2, h3, h3'⟩, h4, h5, h6, h7⟩ | ⟨c0, f, ns, wt, e, h1, h2, h3, h4, h5, h6, h7, h8⟩
  · have hs : stepC es c = setM c.most X := h1 c.most
    refine ⟨w1, ?_, ?_, ?_, fun z => ?_, fun q ks h => ?_, ?_⟩
    · rw [hs]
      exact hmo
    · rw [hs]
      show X.asked = nAsk X.trail
      rw [h4, h2, nAsk_app, h3, g.ca]
      rfl
    · rw [hs]
      show X.asked ≤ m
      rw [h4]
      exact g.le
    · rw [hs] at z
      exact absurd z h7
    · rw [hs] at h
      have h' : Ev.ask q ks ∈ X.trail := h
      rw [h2] at h'
      rcases List.mem_append.mp h' with z | z
      · exact g.ev q ks z
      · exfalso
        have hm : Ev.ask q ks ∈ t.filter isAskE := List.mem_filter.mpr ⟨z, rfl⟩
        have : t.filter isAskE = [] := List.length_eq_zero_iff.mp h3
        rw [this] at hm
        cases hm
    · have : (stepC es c).trail.length = c.trail.length + t.length := by
        rw [hs]
        show X.trail.length = _
        rw [h2, List.length_append]
      omega
  · have hs : stepC es c = askC es (setM m c0) f ns wt := by
      have e0 : setM m c = c := by rw [← hmo]; rfl
      have := h1 m
      rw [e0] at this
      exact this
    have hlt := g.le
    rcases ask_cases (c0 := setM m c0) (ns := ns) (wt := wt) h7 with ⟨ha, q⟩ | ⟨ha, q⟩
    · rw [q] at hs
      have ha' : c0.asked = m := ha
      refine ⟨w1, by rw [hs]; rfl, ?_, ?_, fun z => ?_, fun q ks h => ?_, ?_⟩
      · rw [hs]
        show c0.asked = nAsk c0.trail
        rw [h3, h2, g.ca]
      · rw [hs]
        show c0.asked ≤ m
        omega
      · rw [hs]
        exact ha'
      · rw [hs] at h
        have h' : Ev.ask q ks ∈ c0.trail := h
        rw [h2] at h'
        exact g.ev q ks h'
      · have : (stepC es c).trail.length = c.trail.length := by
          rw [hs]
          show c0.trail.length = _
          rw [h2]
        omega
    · rw [q] at hs
      have ha' : c0.asked ≠ m := ha
      refine ⟨w1, by rw [hs]; rfl, ?_, ?_, fun z => ?_, fun q ks h => ?_, ?_⟩
      · rw [hs]
        show c0.asked + 1 = nAsk (c0.trail ++ [.ask f ns])
        rw [nAsk_app, h3, h2, g.ca]
        rfl
      · rw [hs]
        show c0.asked + 1 ≤ m
        omega
      · rw [hs] at z
        have z' : c0.fin = .long := z
        rw [h6] at z'
        cases z'
      · rw [hs] at h
        have h' : Ev.ask q ks ∈ c0.trail ++ [.ask f ns] := h
        rcases List.mem_append.mp h' with z | z
        · rw [h2] at z
          exact g.ev q ks z
        · rw [List.mem_singleton] at z
          cases z
          exact find_mem h7
      · have : (stepC es c).trail.length = c.trail.length + 1 := by
          rw [hs]
          show (c0.trail ++ [_]).length = _
          rw [h2, List.length_append]
          rfl
        omega
theorem go_of {es : List Er} {hd : Str → Option Nat} (E : EsOk es hd) {m : Nat} {s c : Cf} (h : Rch es s c) (g : GoC es hd m s) : GoC es hd m c := by
  induction h with
  | refl => exact g
  | snoc _ hn ih => exact go_step E ih hn
/-- the shorter one has ended where the longer one asks on -/
def Dv (m : Nat) (a b : Cf) : Prop := a.fin = .long ∧ a.asked = m ∧ (∃ g ks, b.trail = a.trail ++ [.ask g ks]) ∧ a.deepest ≤ b.deepest ∧ a.left ≤ b.left
theorem ask_sim {es : List Er} {c0 : Cf} {f : Str} {ns : List Int} {wt : Int} {e : Er} (hf : es.find? (fun e => decide (e.1 = f)) = some e) {m M : Nat} (hm : m ≤ M) (hc : c0.asked ≤ m) :
    askC es (setM m c0) f ns wt = setM m (askC es (setM M c0) f ns wt) ∨ Dv m (askC es (setM m c0) f ns wt) (askC es (setM M c0) f ns wt) := by
  rcases ask_cases (c0 := setM m c0) (ns := ns) (wt := wt) hf with ⟨ha, q⟩ | ⟨ha, q⟩
  · rcases ask_cases (c0 := setM M c0) (ns := ns) (wt := wt) hf with ⟨hb, p⟩ | ⟨hb, p⟩
    · rw [q, p]
      exact .inl rfl
    · rw [q, p]
      exact .inr ⟨rfl, ha, ⟨f, ns, rfl⟩, Int.le_max_left _ _, Int.le_refl _⟩
  · rcases ask_cases (c0 := setM M c0) (ns := ns) (wt := wt) hf with ⟨hb, p⟩ | ⟨hb, p⟩
    · exfalso
      have ha' : c0.asked ≠ m := ha
      have hb' : c0.asked = M := hb
      omega
    · rw [q, p]
      exact .inl rfl
theorem sim {es : List Er} {hd : Str → Option Nat} (E : EsOk es hd) {f : Str} {ns : List Int} {m M : Nat} (hf : hd f = some ns.length) (hm : m ≤ M) (hM : M ≤ 3000) {a : Cf} (h : Rch es (askC es (cf0 m) f ns 0) a) :
    ∃ b, Rch es (askC es (cf0 M) f ns 0) b ∧ (a = setM m b ∨ Dv m a b) := by
  obtain ⟨e, h1, _⟩ := E.found hf
  generalize hs0 : askC es (cf0 m) f ns 0 = s0 at h
  induction h with
  | refl =>
    subst hs0
    exact ⟨_, .refl _, ask_sim (c0 := cf0 m) h1 hm (Nat.zero_le _)⟩
  | snoc ha hn ih =>
    rename_i a1
    obtain ⟨b1, hb, hr⟩ := ih
    rcases hr with rfl | hr
    · have hbn : b1.fin = .no := hn
      have gb := go_of E hb (go_start E hf hM)
      have w : WfC es hd b1 := gb.wf.resolve_right fun z => z hbn
      have ga := go_of E ha (by rw [← hs0]; exact go_start E hf (Nat.le_trans hm hM))
      have hle : b1.asked ≤ m := ga.le
      refine ⟨_, .snoc hb hbn, ?_⟩
      rcases step_kind E w with ⟨X, h1, _⟩ | ⟨c0, g, ks, wt, e', h1, h2, h3, h4, h5, h6, h7, h8⟩
      · have e1 := h1 m
        have e2 := h1 b1.most
        refine .inl ?_
        rw [e1]
        have e3 : stepC es b1 = setM b1.most X := e2
        rw [e3]
        rfl
      · have e1 := h1 m
        have e2 : stepC es b1 = askC es (setM M c0) g ks wt := by
          have e0 : setM M b1 = b1 := by rw [← gb.mo]; rfl
          have := h1 M
          rw [e0] at this
          exact this
        rw [e1, e2]
        exact ask_sim h7 hm (by rw [h3]; exact hle)
    · rw [hr.1] at hn
      cases hn
structure Mono (b c : Cf) : Prop where
  tr : ∃ t, c.trail = b.trail ++ t
  dp : b.deepest ≤ c.deepest
  lf : b.left ≤ c.left
  as_ : b.asked ≤ c.asked
theorem mono {es : List Er} {hd : Str → Option Nat} (E : EsOk es hd) {m : Nat} {b c : Cf} (h : Rch es b c) (g : GoC es hd m b) : Mono b c := by
  induction h with
  | refl => exact ⟨⟨[], (List.append_nil _).symm⟩, Int.le_refl _, Int.le_refl _, Nat.le_refl _⟩
  | snoc hc hn ih =>
    rename_i c1
    obtain ⟨⟨t, ht⟩, hd1, hl1, ha1⟩ := ih
    have g1 := go_of E hc g
    have w : WfC es hd c1 := g1.wf.resolve_right fun z => z hn
    rcases step_kind E w with ⟨X, h1, ⟨t', h2, _⟩, h4, h5, h6, _⟩ | ⟨c0, q, ks, wt, e', h1, h2, h3, h4, h5, h6, h7, h8⟩
    · have e2 : stepC es c1 = setM c1.most X := h1 c1.most
      rw [e2]
      refine ⟨⟨t ++ t', ?_⟩, ?_, ?_, ?_⟩
      · show X.trail = _
        rw [h2, ht, List.append_assoc]
      · show b.deepest ≤ X.deepest
        rw [h5]
        exact hd1
      · show b.left ≤ X.left
        omega
      · show b.asked ≤ X.asked
        rw [h4]
        exact ha1
    · have e2 : stepC es c1 = askC es (setM c1.most c0) q ks wt := h1 c1.most
      rcases ask_cases (c0 := setM c1.most c0) (ns := ks) (wt := wt) h7 with ⟨ha, p⟩ | ⟨ha, p⟩
      · rw [e2, p]
        refine ⟨⟨t, ?_⟩, ?_, ?_, ?_⟩
        · show c0.trail = _
          rw [h2, ht]
        · show b.deepest ≤ c0.deepest
          rw [h4]
          exact hd1
        · show b.left ≤ c0.left
          omega
        · show b.asked ≤ c0.asked
          omega
      · rw [e2, p]
        refine ⟨⟨t ++ [.ask q ks], ?_⟩, ?_, ?_, ?_⟩
        · show c0.trail ++ _ = _
          rw [h2, ht, List.append_assoc]
        · show b.deepest ≤ max c0.deepest wt
          rw [h4]
          exact Int.le_trans hd1 (Int.le_max_left _ _)
        · show b.left ≤ c0.left
          omega
        · show b.asked ≤ c0.asked + 1
          omega
theorem Rch.head {es : List Er} {a b : Cf} (h : Rch es a b) : a = b ∨ (a.fin = .no ∧ Rch es (stepC es a) b) := by
  induction h with
  | refl => exact .inl rfl
  | snoc h1 hn ih =>
    rcases ih with rfl | ⟨h2, h3⟩
    · exact .inr ⟨hn, .refl _⟩
    · exact .inr ⟨h2, .snoc h3 hn⟩
theorem Rch.line {es : List Er} {s x y : Cf} (h : Rch es s x) (k : Rch es s y) : Rch es x y ∨ Rch es y x := by
  induction h with
  | refl => exact .inl k
  | snoc h1 hn ih =>
    rcases ih with z | z
    · rcases z.head with rfl | ⟨_, z2⟩
      · exact .inr (.snoc (.refl _) hn)
      · exact .inl z2
    · exact .inr (.snoc z hn)
theorem Rch.fin {es : List Er} {a b : Cf} (h : Rch es a b) (hf : a.fin ≠ .no) : a = b := h.head.resolve_right fun z => hf z.1
/-- by fewer asks -/
theorem fewer {es : List Er} {hd : Str → Option Nat} (E : EsOk es hd) {f : Str} {ns : List Int} {m M : Nat} (hf : hd f = some ns.length) (hm : m ≤ M) (hM : M ≤ 3000) {a w : Cf} (h : Rch es (askC es (cf0 m) f ns 0) a) (ha : a.fin ≠ .no) (k : Rch es (askC es (cf0 M) f ns 0) w) (hw : w.fin ≠ .no) :
    a = setM m w ∨ (a.fin = .long ∧ a.asked = m ∧ (∃ g ks t, w.trail = a.trail ++ .ask g ks :: t) ∧ a.deepest ≤ w.deepest ∧ a.left ≤ w.left ∧ m < w.asked) := by
  obtain ⟨b, hb, hr⟩ := sim E hf hm hM h
  have gb := go_of E hb (go_start E hf hM)
  rcases hr with rfl | ⟨h1, h2, ⟨g, ks, h3⟩, h4, h5⟩
  · have hbf : b.fin ≠ .no := ha
    rcases hb.line k with z | z
    · rw [z.fin hbf]
      exact .inl rfl
    · rw [z.fin hw]
      exact .inl rfl
  · have hbw : Rch es b w := by
      rcases hb.line k with z | z
      · exact z
      · rw [z.fin hw]
        exact .refl _
    obtain ⟨⟨t, m1⟩, m2, m3, m4⟩ := mono E hbw gb
    have ga := go_of E h (go_start E hf (Nat.le_trans hm hM))
    refine .inr ⟨h1, h2, ⟨g, ks, t, ?_⟩, Int.le_trans h4 m2, Int.le_trans h5 m3, ?_⟩
    · rw [m1, h3, List.append_assoc]
      rfl
    · have e1 := gb.ca
      rw [h3, nAsk_app, ← ga.ca, h2] at e1
      have : nAsk [Ev.ask g ks] = 1 := rfl
      omega
end KB

namespace KB
open PySem L2 HT

section
variable {P : Program} {w : World} {K : PySem.W.Frag} {mg : Str → Option Value} {base : Heap}
/-! ### _law_numbers -/
def numsL : List V := [.int 0, .int 1, .int 2, .int 3, .int 4, .int 5, .int 7, .int 999]
theorem numsL_int {v : V} (h : v ∈ numsL) : ∃ z : Int, v = .int z ∧ 0 ≤ z ∧ z < 1000 := by
  have e : numsL = ([0, 1, 2, 3, 4, 5, 7, 999] : List Int).map V.int := rfl
  rw [e] at h
  obtain ⟨z, hz, rfl⟩ := List.mem_map.mp h
  have : ∀ x ∈ ([0, 1, 2, 3, 4, 5, 7, 999] : List Int), 0 ≤ x ∧ x < 1000 := by decide
  exact ⟨z, rfl, this z hz⟩
def spNums : Sp := fun vs H Q _ => ∃ (tp : Addr) (n : Nat), vs = [.ref tp, .int n] ∧ Tp H tp ∧ n ≤ 100 ∧ ∀ (p : Addr) (H' : Hp) (ns : List Int), H p = none → But1 tp H H' → Tp H' tp → H' p = some (.tup (ns.map V.int)) → ns.length = n → (∀ z ∈ ns, 0 ≤ z ∧ z < 1000) → Q (.ref p) H'
abbrev s_law_numbers : Stmt := top 42
theorem scLnumbers : FnScope ["tape", "many", "k"] ["tape", "many"] (defScope s_law_numbers) := ⟨rfl, rfl, rfl, by decide +kernel, rfl, by decide +kernel, by decide +kernel⟩
theorem ok_nums (T : Txt K mg) {f g : Addr} {fd gd : FuncData} (F : Fun K "_law_numbers" "_law_numbers" s_law_numbers f fd) (G_law_digit : FnOk P w K mg base CX0 1 g gd ["tape", "many"] spDig) (R_law_digit : Ref K mg "_law_digit" g gd ["tape", "many"]) : FnOk P w K mg base CX0 2 f fd ["tape", "many"] spNums := by
  refine F.ok scLnumbers (fun vs H Q E h => ?_) (fun cdv A outer s H vs Q E hr h => ?_)
  · obtain ⟨tp, n, rfl, _⟩ := h
    rfl
  obtain ⟨tp, n, rfl, ht, hn, q⟩ := h
  refine ⟨_, (pss_one (ps_ret (pe_callTy call_tuple_of (by rfl) T.m_tuple (by decide +kernel) (pa_cons (pe_lc (own := [("k", 2)]) (g := gName 2) (te := tOp (rIxL K) (tLst (tCons (tC (.int 0)) (tCons (tC (.int 1)) (tCons (tC (.int 2)) (tCons (tC (.int 3)) (tCons (tC (.int 4)) (tCons (tC (.int 5)) (tCons (tC (.int 7)) (tCons (tC (.int 999)) tNil))))))))) (tCall spDig [] E0 (tCons (tVar 0) (tCons (tC (.int 8)) tNil)))) (by rfl) scLnumbers.nd (pi_range1 rfl T.m_range (pa_cons (pv 1) pa_nil)) (blkOk_by (own := [("k", 2)]) (N := ["tape", "many", "k"]) (sc := defScope s_law_numbers) (by decide +kernel)) (fun _ _ _ _ _ => (pg_name (i := 2) scLnumbers.nd rfl (Or.inl rfl))) (fun _ _ _ _ _ => pts_nil) (fun _ _ _ _ _ => (pe_ix ix_list (pe_lst (pa_cons pe_int (pa_cons pe_int (pa_cons pe_int (pa_cons pe_int (pa_cons pe_int (pa_cons pe_int (pa_cons pe_int (pa_cons pe_int pa_nil))))))))) (pe_call G_law_digit (hr.mono (by omega)) rfl R_law_digit.m R_law_digit.k R_law_digit.b .nil pass0 (pa_cons (pv 0) (pa_cons pe_int pa_nil))) (fun _ _ => rfl)))) pa_nil)))), ?_⟩
  have htn : ∀ {x : Addr} {H' : Hp}, Tp H' tp → H' x = none → x ≠ tp := fun {x H'} t hx => by
    obtain ⟨z, hz⟩ := t
    exact (ne_of_none hz hx).symm
  refine ⟨_, rfl, n, rfl, by omega, by omega, fun D hD => lc_range (lo := 0) (n := n) (fun i H' => But1 tp H H' ∧ Tp H' tp ∧ ∃ ns : List Int, H' D = some (.lst (ns.map V.int)) ∧ ns.length = i ∧ ∀ z ∈ ns, 0 ≤ z ∧ z < 1000) ⟨but_same (same_new hD _), ht.same (same_new hD _), [], upd_same, rfl, fun z hz => by cases hz⟩ ?_ ?_⟩
  · rintro i H1 hi ⟨b1, t1, ns, h1, hl, hz⟩
    have nD : D ≠ tp := htn ht hD
    refine ⟨rfl, ?_⟩
    dsimp only [tYes]
    refine iteT ?_
    refine ⟨sz (by show 8 ≤ 100000; decide), fun p hp => ?_⟩
    have s2 := same_new hp (.lst numsL)
    have np : p ≠ tp := htn t1 hp
    refine ⟨_, rfl, tp, 8, rfl, t1.same s2, by decide, by decide, fun r H3 r0 r1 b3 t3 => ?_⟩
    obtain ⟨v, hv, hm⟩ := at_some (xs := numsL) r0 r1
    obtain ⟨z, rfl, hz1⟩ := numsL_int hm
    refine ⟨p, _, _, _, rfl, rfl, SqL.of (b3 _ _ np upd_same), hv, ?_⟩
    have h3 := b3 _ _ nD (s2 _ _ h1)
    refine ⟨_, h3, Nat.lt_of_le_of_lt (m := 100) (by rw [List.length_map]; omega) (by decide), ?_⟩
    have bA := (b1.trans (but_same s2)).trans b3
    refine ⟨fun b o hb ho => ?_, ?_, ns ++ [z], ?_, by rw [List.length_append, hl]; rfl, fun y hy => ?_⟩
    · rw [upd_ne (ne_of_none ho hD)]
      exact bA b o hb ho
    · obtain ⟨y, hy⟩ := t3
      exact ⟨y, by rw [upd_ne nD.symm]; exact hy⟩
    · rw [upd_same, List.map_append]
      rfl
    · rcases List.mem_append.mp hy with h | h
      · exact hz y h
      · rw [List.mem_singleton.mp h]
        exact hz1
  · rintro H1 ⟨b1, t1, ns, h1, hl, hz⟩
    refine ⟨D, _, rfl, .inl ⟨SqL.of h1, fun p hp => ?_⟩⟩
    have s2 := same_new hp (.tup (ns.map V.int))
    refine q p _ ns ?_ (b1.trans (but_same s2)) (t1.same s2) upd_same hl hz
    cases e : H p with
    | none => rfl
    | some o =>
      rw [b1 _ _ (htn t1 hp) e] at hp
      cases hp
end
end KB

namespace KB
open PySem L2 HT

/-! ### what a run tells, as Python's data -/
def pdEv : Ev → PyData
  | .ask f ns => .tuple [.str "ask", .str f, .tuple (ns.map PyData.int)]
  | .tell z => .tuple [.str "tell", .int z]
def pdFe : Fe → PyData
  | .no => .tuple []
  | .done z => .tuple [.str "done", .int z]
  | .long => .tuple [.str "long"]
def pdTr (t : List Ev) : PyData := .list (t.map pdEv)
def pdRun (c : Cf) : PyData := .tuple [pdTr c.trail, pdFe c.fin, .int c.deepest, .int c.left]
theorem layAll : ∀ {ds : List PyData}, (∀ d ∈ ds, d.canLay0 = true) → PySem.PyData.canLayAll0 ds = true
  | [], _ => rfl
  | d :: r, h => by
    show (d.canLay0 && PySem.PyData.canLayAll0 r) = true
    rw [h d List.mem_cons_self, layAll fun x hx => h x (List.mem_cons_of_mem _ hx)]
    rfl
theorem depthAll_le {m : Nat} : ∀ {ds : List PyData}, (∀ d ∈ ds, d.depth ≤ m) → PySem.PyData.depthAll ds ≤ m
  | [], _ => Nat.zero_le _
  | d :: r, h => by
    show max d.depth (PySem.PyData.depthAll r) ≤ m
    have h1 := h d List.mem_cons_self
    have h2 := depthAll_le fun x hx => h x (List.mem_cons_of_mem _ hx)
    omega
theorem depth_tup {m : Nat} {ds : List PyData} (h : ∀ d ∈ ds, d.depth ≤ m) : (PyData.tuple ds).depth ≤ m + 1 := by
  show PySem.PyData.depthAll ds + 1 ≤ m + 1
  have := depthAll_le h
  omega
theorem depth_lst {m : Nat} {ds : List PyData} (h : ∀ d ∈ ds, d.depth ≤ m) : (PyData.list ds).depth ≤ m + 1 := by
  show PySem.PyData.depthAll ds + 1 ≤ m + 1
  have := depthAll_le h
  omega
theorem lay_lit {x : Str} (h : PySem.PyData.strOk x = true) : (PyData.str x).canLay0 = true := h
theorem lay_str {x : Str} (h : isW x = true) : (PyData.str x).canLay0 = true := isW_ok h
theorem lay_ints (ns : List Int) : (PyData.tuple (ns.map PyData.int)).canLay0 = true := layAll fun d hd => by
  obtain ⟨k, _, rfl⟩ := List.mem_map.mp hd
  rfl
theorem depth_ints (ns : List Int) : (PyData.tuple (ns.map PyData.int)).depth ≤ 1 := depth_tup (m := 0) fun d hd => by
  obtain ⟨k, _, rfl⟩ := List.mem_map.mp hd
  exact Nat.le_refl 0
theorem lay2 {a b : PyData} (h1 : a.canLay0 = true) (h2 : b.canLay0 = true) : (PyData.tuple [a, b]).canLay0 = true := layAll fun d hd => by
  rcases List.mem_cons.mp hd with z | z
  · rw [z]
    exact h1
  · rw [List.mem_singleton.mp z]
    exact h2
theorem lay3 {a b c : PyData} (h1 : a.canLay0 = true) (h2 : b.canLay0 = true) (h3 : c.canLay0 = true) : (PyData.tuple [a, b, c]).canLay0 = true := layAll fun d hd => by
  rcases List.mem_cons.mp hd with z | z
  · rw [z]
    exact h1
  · rcases List.mem_cons.mp z with z | z
    · rw [z]
      exact h2
    · rw [List.mem_singleton.mp z]
      exact h3
def EvOk (e : Ev) : Prop := ∀ f ns, e = .ask f ns → isW f = true
theorem lay_ev {e : Ev} (h : EvOk e) : (pdEv e).canLay0 = true := by
  cases e with
  | ask f ns => exact lay3 (lay_lit (by decide +kernel)) (lay_str (h f ns rfl)) (lay_ints ns)
  | tell z => exact lay2 (lay_lit (by decide +kernel)) rfl
theorem depth_ev (e : Ev) : (pdEv e).depth ≤ 2 := by
  cases e with
  | ask f ns =>
    refine depth_tup (m := 1) fun d hd => ?_
    rcases List.mem_cons.mp hd with z | z
    · rw [z]
      exact Nat.zero_le _
    · rcases List.mem_cons.mp z with z | z
      · rw [z]
        exact Nat.zero_le _
      · rw [List.mem_singleton.mp z]
        exact depth_ints ns
  | tell z =>
    refine Nat.le_trans (depth_tup (m := 0) fun d hd => ?_) (by decide)
    rcases List.mem_cons.mp hd with y | y
    · rw [y]
      exact Nat.le_refl 0
    · rw [List.mem_singleton.mp y]
      exact Nat.le_refl 0
theorem lay_tr {t : List Ev} (h : ∀ e ∈ t, EvOk e) : (pdTr t).canLay0 = true := layAll fun d hd => by
  obtain ⟨e, he, rfl⟩ := List.mem_map.mp hd
  exact lay_ev (h e he)
theorem depth_tr (t : List Ev) : (pdTr t).depth ≤ 3 := depth_lst (m := 2) fun d hd => by
  obtain ⟨e, _, rfl⟩ := List.mem_map.mp hd
  exact depth_ev e
theorem shaped_tr {t : List Ev} (h : ∀ e ∈ t, EvOk e) : SeqAt.shaped (pdTr t) = true := shaped_of (lay_tr h) (Nat.le_trans (depth_tr t) (by decide))
theorem lay_fe (f : Fe) : (pdFe f).canLay0 = true := by
  cases f with
  | no => rfl
  | done z => exact lay2 (lay_lit (by decide +kernel)) rfl
  | long =>
    refine layAll fun d hd => ?_
    rw [List.mem_singleton.mp hd]
    exact lay_lit (by decide +kernel)
theorem depth_fe (f : Fe) : (pdFe f).depth ≤ 1 := by
  cases f with
  | no => exact depth_tup (m := 0) fun d hd => by cases hd
  | done z =>
    refine depth_tup (m := 0) fun d hd => ?_
    rcases List.mem_cons.mp hd with y | y
    · rw [y]
      exact Nat.le_refl 0
    · rw [List.mem_singleton.mp y]
      exact Nat.le_refl 0
  | long =>
    refine depth_tup (m := 0) fun d hd => ?_
    rw [List.mem_singleton.mp hd]
    exact Nat.le_refl 0
theorem shaped_fe (f : Fe) : SeqAt.shaped (pdFe f) = true := shaped_of (lay_fe f) (Nat.le_trans (depth_fe f) (by decide))
theorem shaped_run {c : Cf} (h : ∀ e ∈ c.trail, EvOk e) : SeqAt.shaped (pdRun c) = true := by
  have aux : ∀ d ∈ [pdTr c.trail, pdFe c.fin, .int c.deepest, .int c.left], d.canLay0 = true ∧ d.depth ≤ 3 := fun d hd => by
    rcases List.mem_cons.mp hd with z | z
    · rw [z]
      exact ⟨lay_tr h, depth_tr _⟩
    rcases List.mem_cons.mp z with z | z
    · rw [z]
      exact ⟨lay_fe _, Nat.le_trans (depth_fe _) (by decide)⟩
    rcases List.mem_cons.mp z with z | z
    · rw [z]
      exact ⟨rfl, Nat.zero_le _⟩
    · rw [List.mem_singleton.mp z]
      exact ⟨rfl, Nat.zero_le _⟩
  exact shaped_of (layAll fun d hd => (aux d hd).1) (Nat.le_trans (depth_tup (m := 3) fun d hd => (aux d hd).2) (by decide))
theorem eqv_self {d : PyData} (h : SeqAt.shaped d = true) : PyData.eqv d d = true := SeqAt.eqv_refl d (SeqAt.canLay_of_shaped h)
theorem dp_ints {K : PySem.W.Frag} {H : Hp} : ∀ ks : List Int, DpAll K H (ks.map V.int) (ks.map PyData.int)
  | [] => .nil
  | k :: r => .cons (.int k) (dp_ints r)
theorem dp_ev {K : PySem.W.Frag} {H : Hp} {e : Ev} {v : V} (h : EvV H e v) : Dp K H v (pdEv e) := by
  cases e with
  | ask f ns =>
    obtain ⟨q, r, e1, h1, h2⟩ := h
    subst e1
    exact .tup (SqT.of h1) (.cons (.str _) (.cons (.str _) (.cons (.tup (SqT.of h2) (dp_ints ns)) .nil)))
  | tell z =>
    obtain ⟨q, e1, h1⟩ := h
    subst e1
    exact .tup (SqT.of h1) (.cons (.str _) (.cons (.int _) .nil))
theorem dp_tr {K : PySem.W.Frag} {H : Hp} : ∀ {t : List Ev} {vs : List V}, All2 (EvV H) t vs → DpAll K H vs (t.map pdEv)
  | [], [], _ => .nil
  | _ :: _, _ :: _, h => .cons (dp_ev h.1) (dp_tr h.2)
  | [], _ :: _, h => h.elim
  | _ :: _, [], h => h.elim
theorem dp_fe {K : PySem.W.Frag} {H : Hp} {f : Fe} {v : V} (h : FeV H f v) (hn : f ≠ .no) : Dp K H v (pdFe f) := by
  cases f with
  | no => exact absurd rfl hn
  | done z =>
    obtain ⟨q, e1, h1⟩ := h
    subst e1
    exact .tup (SqT.of h1) (.cons (.str _) (.cons (.int _) .nil))
  | long =>
    obtain ⟨q, e1, h1⟩ := h
    subst e1
    exact .tup (SqT.of h1) (.cons (.str _) .nil)
/-- what run tells, at q -/
structure RunV (H : Hp) (c : Cf) (q : Addr) (tl : Addr) (tv : List V) (ev : V) : Prop where
  q : H q = some (.tup [.ref tl, ev, .int c.deepest, .int c.left])
  tl : H tl = some (.lst tv)
  te : All2 (EvV H) c.trail tv
  ev : FeV H c.fin ev
  nn : c.fin ≠ .no
theorem RunV.same {H H' : Hp} {c : Cf} {q tl : Addr} {tv : List V} {ev : V} (s : Same H H') (h : RunV H c q tl tv ev) : RunV H' c q tl tv ev := ⟨s _ _ h.q, s _ _ h.tl, h.te.imp fun _ _ z => z.tk (tk_same s), h.ev.tk (tk_same s), h.nn⟩
theorem RunV.dp {K : PySem.W.Frag} {H : Hp} {c : Cf} {q tl : Addr} {tv : List V} {ev : V} (h : RunV H c q tl tv ev) : Dp K H (.ref q) (pdRun c) :=
  .tup (SqT.of h.q) (.cons (.lst (SqL.of h.tl) (dp_tr h.te)) (.cons (dp_fe h.ev h.nn) (.cons (.int _) (.cons (.int _) .nil))))
theorem RunV.dpT {K : PySem.W.Frag} {H : Hp} {c : Cf} {q tl : Addr} {tv : List V} {ev : V} (h : RunV H c q tl tv ev) : Dp K H (.ref tl) (pdTr c.trail) := .lst (SqL.of h.tl) (dp_tr h.te)
theorem go_ev {es : List Er} {hd : Str → Option Nat} {m : Nat} {c : Cf} (E : EsOk es hd) (g : GoC es hd m c) : ∀ e ∈ c.trail, EvOk e := by
  rintro e he f ns rfl
  obtain ⟨x, hx, rfl⟩ := List.mem_map.mp (g.ev f ns he)
  exact (E.er x hx).w
end KB

namespace KB
open PySem L2 HT

/-! ### marks -/
abbrev Mk3 := List Int × Bool × Bool
/-- whether part i is led on, and whether it is last -/
def pmk (h : Hd) (i : Nat) (ld ls : Bool) : Bool × Bool := if 0 < i then (match h with | .lett _ => (ld, ls) | .iff => (true, ls) | _ => (false, false)) else (false, false)
def marks : Tm → Bool → Bool → List Mk3
  | .mk h n k, ld, ls => ([], ld, ls) :: (List.ofFn fun i : _root_.Fin n => (marks (k i) (pmk h i.val ld ls).1 (pmk h i.val ld ls).2).map fun m => ((i.val : Int) :: m.1, m.2)).flatten
def marksL (h : Hd) (ld ls : Bool) : Nat → List Tm → List Mk3
  | _, [] => []
  | j, t :: ts => (marks t (pmk h j ld ls).1 (pmk h j ld ls).2).map (fun m => ((j : Int) :: m.1, m.2)) ++ marksL h ld ls (j + 1) ts
theorem marks_ofFn {h : Hd} {ld ls : Bool} : ∀ {n : Nat} {k : _root_.Fin n → Tm} {j : Nat},
    (List.ofFn fun i : _root_.Fin n => (marks (k i) (pmk h (j + i.val) ld ls).1 (pmk h (j + i.val) ld ls).2).map fun m => (((j + i.val : Nat) : Int) :: m.1, m.2)).flatten = marksL h ld ls j (List.ofFn k)
  | 0, _, _ => rfl
  | n + 1, k, j => by
    rw [List.ofFn_succ, List.ofFn_succ, List.flatten_cons]
    show _ = (marks (k 0) (pmk h j ld ls).1 (pmk h j ld ls).2).map (fun m => ((j : Int) :: m.1, m.2)) ++ marksL h ld ls (j + 1) _
    rw [← marks_ofFn (k := fun i => k i.succ) (j := j + 1)]
    congr 3
    funext i
    have e : j + (i.succ).val = j + 1 + i.val := by
      rw [_root_.Fin.val_succ]
      omega
    rw [e]
theorem marks_mk {h : Hd} {n : Nat} {k : _root_.Fin n → Tm} {ld ls : Bool} : marks (.mk h n k) ld ls = ([], ld, ls) :: marksL h ld ls 0 (List.ofFn k) := by
  rw [← marks_ofFn]
  show ([], ld, ls) :: _ = _
  congr 3
  funext i
  rw [Nat.zero_add]
theorem marks_len : ∀ (t : Tm) (ld ls : Bool), (marks t ld ls).length = cnt t := by
  have go : ∀ (h : Hd) (ld ls : Bool) (ts : List Tm) (j : Nat), (∀ t ∈ ts, ∀ a b, (marks t a b).length = cnt t) → (marksL h ld ls j ts).length = cnts ts := by
    intro h ld ls ts
    induction ts with
    | nil => intro j _; rfl
    | cons t r ih =>
      intro j hh
      show ((marks t _ _).map _ ++ marksL h ld ls (j + 1) r).length = _
      rw [List.length_append, List.length_map, ih (j + 1) (fun u hu => hh u (List.mem_cons_of_mem _ hu)), hh t List.mem_cons_self, cnts_cons]
  intro t
  induction t with
  | mk h n k ih =>
    intro ld ls
    rw [marks_mk, cnt_mk, List.length_cons, go _ _ _ _ _ (fun t ht => ?_)]
    · omega
    · obtain ⟨i, rfl⟩ := List.mem_ofFn.mp ht
      exact ih i
theorem marks_short : ∀ (t : Tm) (ld ls : Bool) (m : Mk3), m ∈ marks t ld ls → m.1.length < cnt t := by
  have go : ∀ (h : Hd) (ld ls : Bool) (ts : List Tm) (j : Nat), (∀ t ∈ ts, ∀ a b, ∀ m ∈ marks t a b, m.1.length < cnt t) → ∀ m ∈ marksL h ld ls j ts, m.1.length ≤ cnts ts := by
    intro h ld ls ts
    induction ts with
    | nil =>
      intro j _ m hm
      cases hm
    | cons t r ih =>
      intro j hh m hm
      have hm' : m ∈ (marks t (pmk h j ld ls).1 (pmk h j ld ls).2).map (fun m => ((j : Int) :: m.1, m.2)) ++ marksL h ld ls (j + 1) r := hm
      rw [cnts_cons]
      rcases List.mem_append.mp hm' with z | z
      · obtain ⟨p', h1, rfl⟩ := List.mem_map.mp z
        have := hh t List.mem_cons_self _ _ p' h1
        show p'.1.length + 1 ≤ _
        omega
      · have := ih (j + 1) (fun u hu => hh u (List.mem_cons_of_mem _ hu)) m z
        omega
  intro t
  induction t with
  | mk h n k ih =>
    intro ld ls m hm
    rw [marks_mk] at hm
    rw [cnt_mk]
    rcases List.mem_cons.mp hm with z | z
    · rw [z]
      show 0 < _
      omega
    · have := go h ld ls _ 0 (fun t ht => by
        obtain ⟨i, rfl⟩ := List.mem_ofFn.mp ht
        exact ih i) m z
      omega
/-! ### what waits -/
abbrev En := List Int × Tm × Bool × Bool
def ents (h : Hd) (ld ls : Bool) (ks : List Int) : Nat → List Tm → List En
  | _, [] => []
  | j, t :: ts => (ks ++ [(j : Int)], t, pmk h j ld ls) :: ents h ld ls ks (j + 1) ts
def spread (es : List En) : List Mk3 := (es.map fun e => (marks e.2.1 e.2.2.1 e.2.2.2).map fun m => (e.1 ++ m.1, m.2)).flatten
def ecnt (es : List En) : Nat := cnts (es.map (·.2.1))
theorem spread_cons {e : En} {r : List En} : spread (e :: r) = (marks e.2.1 e.2.2.1 e.2.2.2).map (fun m => (e.1 ++ m.1, m.2)) ++ spread r := by
  unfold spread
  rw [List.map_cons, List.flatten_cons]
theorem spread_app {a b : List En} : spread (a ++ b) = spread a ++ spread b := by
  unfold spread
  rw [List.map_append, List.flatten_append]
theorem spread_ents {h : Hd} {ld ls : Bool} {ks : List Int} : ∀ {ts : List Tm} {j : Nat}, spread (ents h ld ls ks j ts) = (marksL h ld ls j ts).map fun m => (ks ++ m.1, m.2)
  | [], _ => rfl
  | t :: ts, j => by
    show spread ((ks ++ [(j : Int)], t, pmk h j ld ls) :: ents h ld ls ks (j + 1) ts) = List.map (fun m => (ks ++ m.1, m.2)) ((marks t (pmk h j ld ls).1 (pmk h j ld ls).2).map (fun m => ((j : Int) :: m.1, m.2)) ++ marksL h ld ls (j + 1) ts)
    rw [spread_cons, spread_ents, List.map_append, List.map_map]
    congr 1
    refine List.map_congr_left fun p _ => ?_
    show ((ks ++ [(j : Int)]) ++ p.1, p.2) = (ks ++ ((j : Int) :: p.1), p.2)
    rw [List.append_assoc]
    rfl
theorem ents_snd {h : Hd} {ld ls : Bool} {ks : List Int} : ∀ {ts : List Tm} {j : Nat}, (ents h ld ls ks j ts).map (·.2.1) = ts
  | [], _ => rfl
  | t :: ts, j => by
    show t :: (ents h ld ls ks (j + 1) ts).map (·.2.1) = t :: ts
    rw [ents_snd]
theorem ents_drop {h : Hd} {ld ls : Bool} {ks : List Int} {kl : List Tm} {i : Nat} (hi : i < kl.length) : ents h ld ls ks i (kl.drop i) = (ks ++ [(i : Int)], kl[i], pmk h i ld ls) :: ents h ld ls ks (i + 1) (kl.drop (i + 1)) := by
  rw [List.drop_eq_getElem_cons hi]
  rfl
theorem ents_len {h : Hd} {ld ls : Bool} {ks : List Int} {ts : List Tm} {j : Nat} : (ents h ld ls ks j ts).length = ts.length := by
  have := congrArg List.length (ents_snd (h := h) (ld := ld) (ls := ls) (ks := ks) (ts := ts) (j := j))
  rw [List.length_map] at this
  exact this
def MkV (H : Hp) (m : Str × Mk3) (v : V) : Prop := ∃ q r, v = .ref q ∧ H q = some (.tup [.ref r, .bl m.2.2.1, .bl m.2.2.2]) ∧ H r = some (.tup (.str m.1 :: m.2.1.map V.int))
theorem MkV.tk {H H' : Hp} (e : TK H H') {m : Str × Mk3} {v : V} (h : MkV H m v) : MkV H' m v := let ⟨q, r, a, b, c⟩ := h; ⟨q, r, a, e _ _ b, e _ _ c⟩
def EnV (H : Hp) (nm : Str) (e : En) (v : V) : Prop := ∃ q r b, v = .ref q ∧ H q = some (.tup [.ref r, .ref b, .bl e.2.2.1, .bl e.2.2.2]) ∧ H r = some (.tup (.str nm :: e.1.map V.int)) ∧ At H e.2.1 b
theorem EnV.tk {H H' : Hp} (e : TK H H') {nm : Str} {x : En} {v : V} (h : EnV H nm x v) : EnV H' nm x v := let ⟨q, r, b, h0, h1, h2, h3⟩ := h; ⟨q, r, b, h0, e _ _ h1, e _ _ h2, h3.tk e⟩
def erMk (e : Er) : List (Str × Mk3) := (marks e.2.2 true true).map fun m => (e.1, m)
def allMk (es : List Er) : List (Str × Mk3) := (es.map erMk).flatten
theorem allMk_take {es : List Er} {i : Nat} {e : Er} (h : es[i]? = some e) : allMk (es.take (i + 1)) = allMk (es.take i) ++ erMk e := by
  unfold allMk
  obtain ⟨hi, he⟩ := List.getElem?_eq_some_iff.mp h
  rw [List.take_succ_eq_append_getElem hi, List.map_append, List.flatten_append, he]
  simp
theorem allMk_len {es : List Er} (hc : ∀ e ∈ es, cnt e.2.2 ≤ 1000) : (allMk es).length ≤ 1000 * es.length := by
  induction es with
  | nil => exact Nat.zero_le _
  | cons e r ih =>
    have h1 := ih fun x hx => hc x (List.mem_cons_of_mem _ hx)
    have h2 := hc e List.mem_cons_self
    have h3 : allMk (e :: r) = erMk e ++ allMk r := by
      unfold allMk
      rw [List.map_cons, List.flatten_cons]
    have h4 : (erMk e).length = cnt e.2.2 := by
      unfold erMk
      rw [List.length_map, marks_len]
    rw [h3, List.length_append, h4, List.length_cons]
    omega

section
variable {P : Program} {w : World} {K : PySem.W.Frag} {mg : Str → Option Value} {base : Heap}
/-! ### marks_of_part -/
def spMop : Sp := fun vs H Q _ => ∃ (h : Hd) (i : Nat) (ld ls : Bool), vs = [.str (hs h), .int i, .bl ld, .bl ls] ∧ ∀ p, H p = none → Q (.ref p) (upd H p (.tup [.bl (pmk h i ld ls).1, .bl (pmk h i ld ls).2]))
abbrev smarks_of_part : Stmt := top 15
theorem scmarks_of_part : FnScope ["head", "k", "is_led", "is_last"] ["head", "k", "is_led", "is_last"] (defScope smarks_of_part) := ⟨rfl, rfl, rfl, by decide +kernel, rfl, by decide +kernel, by decide +kernel⟩
theorem ok_mop {f : Addr} {fd : FuncData} (F : Fun K "marks_of_part" "marks_of_part" smarks_of_part f fd) : FnOk P w K mg base CX0 1 f fd ["head", "k", "is_led", "is_last"] spMop := by
  refine F.ok scmarks_of_part (fun vs H Q E h => ?_) (fun cdv A outer s H vs Q E hr h => ?_)
  · obtain ⟨h, i, ld, ls, rfl, _⟩ := h
    rfl
  obtain ⟨h, i, ld, ls, rfl, q⟩ := h
  refine ⟨_, (pss_cons (ps_if (PW.pt (pw_and (pt_cmpR op_gt (pv 1) pe_int (nomark _)) (pw_and1 (pt_cmpR op_eq (pv 0) pe_str (nomark _))))) (pss_one (ps_ret (pe_tup (pa_cons (pv 2) (pa_cons (pv 3) pa_nil))))) pss_nil)
    (pss_cons (ps_if (PW.pt (pw_and (pt_cmpR op_gt (pv 1) pe_int (nomark _)) (pw_and1 (pt_cmpR op_eq (pv 0) pe_str (nomark _))))) (pss_one (ps_ret (pe_tup (pa_cons pe_bl (pa_cons (pv 3) pa_nil))))) pss_nil)
    (pss_one (ps_ret (pe_tup (pa_cons pe_bl (pa_cons pe_bl pa_nil))))))), ?_⟩
  by_cases c : 0 < i
  · have c' : decide ((i : Int) > 0) = true := decide_eq_true (by omega)
    cases h with
    | lett x =>
      have e : pmk (.lett x) i ld ls = (ld, ls) := by unfold pmk; rw [if_pos c]
      rw [e] at q
      exact ⟨_, rfl, _, _, rfl, rfl, _, rfl, itT c' ⟨_, rfl, rfl, _, rfl, itT rfl ⟨_, rfl, _, rfl, sz (by show 2 ≤ 100000; decide), fun p hp => q p hp⟩⟩⟩
    | iff =>
      have e : pmk .iff i ld ls = (true, ls) := by unfold pmk; rw [if_pos c]
      rw [e] at q
      exact ⟨_, rfl, _, _, rfl, rfl, _, rfl, itT c' ⟨_, rfl, rfl, _, rfl, itF rfl ⟨_, rfl, _, _, rfl, rfl, _, rfl, itT c' ⟨_, rfl, rfl, _, rfl, itT rfl ⟨_, rfl, sz (by show 2 ≤ 100000; decide), fun p hp => q p hp⟩⟩⟩⟩⟩
    | num z =>
      have e : pmk (.num z) i ld ls = (false, false) := by unfold pmk; rw [if_pos c]
      rw [e] at q
      exact ⟨_, rfl, _, _, rfl, rfl, _, rfl, itT c' ⟨_, rfl, rfl, _, rfl, itF rfl ⟨_, rfl, _, _, rfl, rfl, _, rfl, itT c' ⟨_, rfl, rfl, _, rfl, itF rfl ⟨sz (by show 2 ≤ 100000; decide), fun p hp => q p hp⟩⟩⟩⟩⟩
    | nam z =>
      have e : pmk (.nam z) i ld ls = (false, false) := by unfold pmk; rw [if_pos c]
      rw [e] at q
      exact ⟨_, rfl, _, _, rfl, rfl, _, rfl, itT c' ⟨_, rfl, rfl, _, rfl, itF rfl ⟨_, rfl, _, _, rfl, rfl, _, rfl, itT c' ⟨_, rfl, rfl, _, rfl, itF rfl ⟨sz (by show 2 ≤ 100000; decide), fun p hp => q p hp⟩⟩⟩⟩⟩
    | ask z =>
      have e : pmk (.ask z) i ld ls = (false, false) := by unfold pmk; rw [if_pos c]
      rw [e] at q
      exact ⟨_, rfl, _, _, rfl, rfl, _, rfl, itT c' ⟨_, rfl, rfl, _, rfl, itF rfl ⟨_, rfl, _, _, rfl, rfl, _, rfl, itT c' ⟨_, rfl, rfl, _, rfl, itF rfl ⟨sz (by show 2 ≤ 100000; decide), fun p hp => q p hp⟩⟩⟩⟩⟩
    | plus =>
      have e : pmk .plus i ld ls = (false, false) := by unfold pmk; rw [if_pos c]
      rw [e] at q
      exact ⟨_, rfl, _, _, rfl, rfl, _, rfl, itT c' ⟨_, rfl, rfl, _, rfl, itF rfl ⟨_, rfl, _, _, rfl, rfl, _, rfl, itT c' ⟨_, rfl, rfl, _, rfl, itF rfl ⟨sz (by show 2 ≤ 100000; decide), fun p hp => q p hp⟩⟩⟩⟩⟩
    | less =>
      have e : pmk .less i ld ls = (false, false) := by unfold pmk; rw [if_pos c]
      rw [e] at q
      exact ⟨_, rfl, _, _, rfl, rfl, _, rfl, itT c' ⟨_, rfl, rfl, _, rfl, itF rfl ⟨_, rfl, _, _, rfl, rfl, _, rfl, itT c' ⟨_, rfl, rfl, _, rfl, itF rfl ⟨sz (by show 2 ≤ 100000; decide), fun p hp => q p hp⟩⟩⟩⟩⟩
    | tell =>
      have e : pmk .tell i ld ls = (false, false) := by unfold pmk; rw [if_pos c]
      rw [e] at q
      exact ⟨_, rfl, _, _, rfl, rfl, _, rfl, itT c' ⟨_, rfl, rfl, _, rfl, itF rfl ⟨_, rfl, _, _, rfl, rfl, _, rfl, itT c' ⟨_, rfl, rfl, _, rfl, itF rfl ⟨sz (by show 2 ≤ 100000; decide), fun p hp => q p hp⟩⟩⟩⟩⟩
  · have c' : decide ((i : Int) > 0) = false := decide_eq_false (by omega)
    have e : pmk h i ld ls = (false, false) := by unfold pmk; rw [if_neg c]
    rw [e] at q
    exact ⟨_, rfl, _, _, rfl, rfl, _, rfl, itF c' (iteF ⟨_, rfl, _, _, rfl, rfl, _, rfl, itF c' (iteF ⟨sz (by show 2 ≤ 100000; decide), fun p hp => q p hp⟩)⟩)⟩
/-! ### marked_places -/
def spMkd : Sp := fun vs H Q _ => ∃ (p : Addr) (es : List Er) (us : List V), vs = [.ref p] ∧ BkAt H es us p ∧ es.length ≤ 6 ∧ (∀ e ∈ es, cnt e.2.2 ≤ 1000) ∧
  ∀ p' H' its, H p' = none → Same H H' → H' p' = some (.lst its) → All2 (MkV H') (allMk es) its → Q (.ref p') H'
abbrev smarked_places : Stmt := top 14
theorem scmarked_places : FnScope ["book", "marked", "name", "names", "body", "waiting", "place", "term", "is_led", "is_last", "parts", "k", "is_part_led", "is_part_last"] ["book"] (defScope smarked_places) := ⟨rfl, rfl, rfl, by decide +kernel, rfl, by decide +kernel, by decide +kernel⟩
def MkdW (H : Hp) (bk fl : Addr) (nm : Str) (rn body wl : Addr) (dn : List (Str × Mk3)) (t : Tm) (m : Nat) (σ : St) (H' : Hp) : Prop := ∃ o6 o7 o8 o9 o10 o11 o12 o13 fs fv rs es, σ = [some (.ref bk), some (.ref fl), some (.str nm), some (.ref rn), some (.ref body), some (.ref wl), o6, o7, o8, o9, o10, o11, o12, o13] ∧ Same H H' ∧ H wl = none ∧ fl ≠ wl ∧
  H' fl = some (.lst fv) ∧ All2 (MkV H') (dn ++ fs.map fun m => (nm, m)) fv ∧ H' wl = some (.lst (List.reverse rs)) ∧ All2 (EnV H' nm) es rs ∧ m = ecnt es ∧ fs.length + ecnt es ≤ 1000 ∧ fs ++ spread es = marks t true true
def MkdI (H : Hp) (bk fl : Addr) (nm : Str) (rn body wl b ra pp : Addr) (h : Hd) (ld ls : Bool) (dn : List (Str × Mk3)) (fs : List Mk3) (ks : List Int) (kl : List Tm) (es : List En) (ys : List V) (i : Nat) (σ : St) (H' : Hp) : Prop :=
  ∃ o11 o12 o13, σ = [some (.ref bk), some (.ref fl), some (.str nm), some (.ref rn), some (.ref body), some (.ref wl), some (.ref ra), some (.ref b), some (.bl ld), some (.bl ls), some (.ref pp), o11, o12, o13] ∧ Same H H' ∧ (∃ fv, H' fl = some (.lst fv) ∧ All2 (MkV H') (dn ++ fs.map fun m => (nm, m)) fv) ∧
  (∃ rs, H' wl = some (.lst (List.reverse rs)) ∧ All2 (EnV H' nm) (ents h ld ls ks (kl.length - i) (kl.drop (kl.length - i)) ++ es) rs) ∧ H' ra = some (.tup (.str nm :: ks.map V.int)) ∧ H' pp = some (.tup ys) ∧ Stk H' ys kl ∧ ∃ r0, H' b = some (.tup (.str (hs h) :: r0))
theorem ok_mkd (T : Txt K mg) {f g gm : Addr} {fd gd md : FuncData} (F : Fun K "marked_places" "marked_places" smarked_places f fd) (Gparts_of : FnOk P w K mg base CX0 1 g gd ["term"] spParts) (Rparts_of : Ref K mg "parts_of" g gd ["term"])
    (Gmarks_of_part : FnOk P w K mg base CX0 1 gm md ["head", "k", "is_led", "is_last"] spMop) (Rmarks_of_part : Ref K mg "marks_of_part" gm md ["head", "k", "is_led", "is_last"]) : FnOk P w K mg base CX0 2 f fd ["book"] spMkd := by
  refine F.ok scmarked_places (fun vs H Q E h => ?_) (fun cdv A outer s H vs Q E hr h => ?_)
  · obtain ⟨p, es, us, rfl, _⟩ := h
    rfl
  obtain ⟨p, es, us, rfl, hB, hl6, hc, q⟩ := h
  refine ⟨_, (pss_cons (ps_set (i := 1) scmarked_places.nd rfl (Or.inl rfl) (pe_lst pa_nil))
    (pss_cons (ps_for PassesOwn.never rfl (pi_tup (pv 0)) (pg_tup rfl (pgs_cons (pg_name (i := 2) scmarked_places.nd rfl (Or.inl rfl)) (pgs_cons (pg_name (i := 3) scmarked_places.nd rfl (Or.inl rfl)) (pgs_cons (pg_name (i := 4) scmarked_places.nd rfl (Or.inl rfl)) pgs_nil)))) (pss_cons (ps_set (i := 5) scmarked_places.nd rfl (Or.inl rfl) (pe_lst (pa_cons (pe_tup (pa_cons (pe_tup (pa_cons (pv 2) pa_nil)) (pa_cons (pv 4) (pa_cons pe_bl (pa_cons pe_bl pa_nil))))) pa_nil)))
    (pss_one (ps_while PassesOwn.never (pt_truth (pv 5) (by intro _; rfl)) (pss_cons (ps_asg (pe_bm0 PySem.F.plainAttrs_list PySem.F.slot_list_pop PySem.F.type_list_pop mt_pop (pv 5)) (pg_tup rfl (pgs_cons (pg_name (i := 6) scmarked_places.nd rfl (Or.inl rfl)) (pgs_cons (pg_name (i := 7) scmarked_places.nd rfl (Or.inl rfl)) (pgs_cons (pg_name (i := 8) scmarked_places.nd rfl (Or.inl rfl)) (pgs_cons (pg_name (i := 9) scmarked_places.nd rfl (Or.inl rfl)) pgs_nil))))))
    (pss_cons (ps_expr (pe_bm PySem.F.plainAttrs_list PySem.F.slot_list_append PySem.F.type_list_append mt_append (pv 1) (pa_cons (pe_tup (pa_cons (pv 6) (pa_cons (pv 8) (pa_cons (pv 9) pa_nil)))) pa_nil)))
    (pss_cons (ps_set (i := 10) scmarked_places.nd rfl (Or.inl rfl) (pe_call Gparts_of (hr.mono (by omega)) rfl Rparts_of.m Rparts_of.k Rparts_of.b .nil pass0 (pa_cons (pv 7) pa_nil)))
    (pss_one (ps_for PassesOwn.never rfl (pi_revR rfl T.m_reversed (prg_1 rfl T.m_range (pe_callB call_len_seq (by rfl) T.m_len PySem.boot_len (pa_cons (pv 10) pa_nil)))) (pg_name (i := 11) scmarked_places.nd rfl (Or.inl rfl)) (pss_cons (ps_asg (pe_call Gmarks_of_part (hr.mono (by omega)) rfl Rmarks_of_part.m Rmarks_of_part.k Rmarks_of_part.b .nil pass0 (pa_cons (pe_ix ix_tup (pv 7) pe_int (fun _ _ => rfl)) (pa_cons (pv 11) (pa_cons (pv 8) (pa_cons (pv 9) pa_nil))))) (pg_tup rfl (pgs_cons (pg_name (i := 12) scmarked_places.nd rfl (Or.inl rfl)) (pgs_cons (pg_name (i := 13) scmarked_places.nd rfl (Or.inl rfl)) pgs_nil))))
    (pss_one (ps_expr (pe_bm PySem.F.plainAttrs_list PySem.F.slot_list_append PySem.F.type_list_append mt_append (pv 5) (pa_cons (pe_tup (pa_cons (pe_tup (StX.pa_star (pv 6) (pa_cons (pv 11) pa_nil))) (pa_cons (pe_ix ix_tup (pv 10) (pv 11) (fun _ _ => rfl)) (pa_cons (pv 12) (pa_cons (pv 13) pa_nil))))) pa_nil))))))))))))))
    (pss_one (ps_ret (pv 1))))), ?_⟩
  refine ⟨sz (by show 0 ≤ 100000; decide), fun fl hfl => ?_⟩
  have s0 := same_new hfl (.lst [])
  refine ⟨_, rfl, p, rfl, ⟨_, SqT.of (s0 _ _ hB.1)⟩, for_tup (xs := us) (fun i σ H' => ∃ o2 o3 o4 o5 o6 o7 o8 o9 o10 o11 o12 o13 its, σ = [some (.ref p), some (.ref fl), o2, o3, o4, o5, o6, o7, o8, o9, o10, o11, o12, o13] ∧ Same H H' ∧ H' fl = some (.lst its) ∧ All2 (MkV H') (allMk (es.take i)) its) ?_ ?_ ?_ ?_⟩
  · refine ⟨_, _, _, _, _, _, _, _, _, _, _, _, [], rfl, s0, upd_same, ?_⟩
    rw [List.take_zero]
    exact trivial
  · rintro i σ H' _ ⟨_, _, _, _, _, _, _, _, _, _, _, _, its, rfl, s1, h1, k1⟩
    exact SqT.of (s1 _ _ hB.1)
  · rintro i x σ H1 hx ⟨o2, o3, o4, o5, o6, o7, o8, o9, o10, o11, o12, o13, its, rfl, s1, h1, k1⟩
    obtain ⟨e, he, qa, rn, body, rfl, g1, g2, g3⟩ := hB.2.get hx
    have hee := mem_of_get he
    have hce := hc e hee
    refine ⟨qa, _, rfl, SqT.of (s1 _ _ g1), rfl, _, _, rfl, _, _, rfl, _, _, rfl, rfl, ?_⟩
    refine ⟨_, rfl, sz (by show 1 ≤ 100000; decide), fun p0 hp0 => ?_⟩
    have t1 := same_new hp0 (.tup [.str e.1])
    refine ⟨_, rfl, sz (by show 4 ≤ 100000; decide), fun p1 hp1 => ?_⟩
    have t2 := same_new hp1 (.tup [.ref p0, .ref body, .bl true, .bl true])
    refine ⟨sz (by show 1 ≤ 100000; decide), fun wl hwl => ?_⟩
    have t3 := same_new hwl (.lst [.ref p1])
    have tA := t1.trans (t2.trans t3)
    have sA := s1.trans tA
    have hwl0 : H wl = none := s1.free ((t1.trans t2).free hwl)
    have hfw : fl ≠ wl := ne_of_none (t2 _ _ (t1 _ _ h1)) hwl
    refine ⟨MkdW H p fl e.1 rn body wl (allMk (es.take i)) e.2.2, ⟨_, _, _, _, _, _, _, _, _, [], its, [.ref p1], [([], e.2.2, true, true)], rfl, sA, hwl0, hfw, tA _ _ h1, ?_, upd_same, ⟨⟨p1, p0, body, rfl, t3 _ _ upd_same, t3 _ _ (t2 _ _ upd_same), g3.mono sA⟩, trivial⟩, rfl, ?_, ?_⟩, ?_⟩
    · rw [List.map_nil, List.append_nil]
      exact k1.imp fun _ _ z => z.tk (tk_same tA)
    · show 0 + (cnt e.2.2 + 0) ≤ 1000
      omega
    · rw [spread_cons]
      show [] ++ ((marks e.2.2 true true).map (fun m => ([] ++ m.1, m.2)) ++ []) = marks e.2.2 true true
      simp
    clear t3 hwl t2 hp1 t1 hp0 tA sA k1 h1
    rintro m σ H2 ⟨o6, o7, o8, o9, o10, o11, o12, o13, fs, fv, rs, es2, rfl, s2, hw0, _, h1, k1, h2, k2, rfl, hm, hP⟩
    refine ⟨_, rfl, _, .inl ⟨_, SqL.of h2, rfl⟩, ?_⟩
    cases rs with
    | nil =>
      cases es2 with
      | cons _ _ => exact k2.elim
      | nil =>
        refine itF rfl ?_
        have e9 : fs = marks e.2.2 true true := by
          rw [← hP]
          exact (List.append_nil fs).symm
        subst e9
        refine ⟨_, _, _, _, _, _, _, _, _, _, _, _, fv, rfl, s2, h1, ?_⟩
        rw [allMk_take he]
        exact k1
    | cons r rs =>
      cases es2 with
      | nil => exact k2.elim
      | cons e1 es2 =>
        obtain ⟨ks, t1, ld, ls⟩ := e1
        obtain ⟨⟨qb, ra, b, rfl, c1, c2, c3⟩, k3⟩ := k2
        refine itT (by simp) ⟨fun σ' H' => ∃ m', m' < ecnt ((ks, t1, ld, ls) :: es2) ∧ MkdW H p fl e.1 rn body wl (allMk (es.take i)) e.2.2 m' σ' H', fun _ _ z => z, ?_⟩
        -- place, term, is_led, is_last = waiting.pop()
        refine ⟨_, rfl, .inl ⟨rfl, _, SqL.of h2⟩, wl, _, .ref qb, rfl, rfl, h2, by simp, ?_⟩
        have eD : ((V.ref qb :: rs).reverse).dropLast = rs.reverse := by rw [List.reverse_cons, List.dropLast_concat]
        rw [eD]
        have tk2 : TK H2 (upd H2 wl (.lst rs.reverse)) := tk_put h2
        have s3 : Same H (upd H2 wl (.lst rs.reverse)) := same_mut s2 hw0
        have w3 : upd H2 wl (.lst rs.reverse) wl = some (.lst rs.reverse) := upd_same
        have f3 : upd H2 wl (.lst rs.reverse) fl = some (.lst fv) := by
          rw [upd_ne hfw]
          exact h1
        have k4 := k1.imp fun _ _ z => MkV.tk tk2 z
        have k5 := k3.imp fun _ _ z => EnV.tk tk2 z
        have c4 := tk2 _ _ c1
        have c5 := tk2 _ _ c2
        have c6 := c3.tk tk2
        generalize upd H2 wl (.lst rs.reverse) = H3 at s3 w3 f3 k4 k5 c4 c5 c6
        refine ⟨qb, _, rfl, SqT.of c4, rfl, _, _, rfl, _, _, rfl, _, _, rfl, _, _, rfl, rfl, ?_⟩
        -- marked.append((place, is_led, is_last))
        have hfs := k4.len
        rw [List.length_append, List.length_map] at hfs
        have hdl := allMk_len (es := es.take i) fun x hx => hc x (List.mem_of_mem_take hx)
        have hdl2 : (es.take i).length ≤ es.length := by
          rw [List.length_take]
          omega
        refine ⟨_, rfl, .inl ⟨rfl, _, SqL.of f3⟩, _, rfl, _, rfl, _, rfl, sz (by show 3 ≤ 100000; decide), fun p2 hp2 => ?_⟩
        have s4 := same_new hp2 (.tup [.ref ra, .bl ld, .bl ls])
        have f4 := s4 _ _ f3
        refine ⟨fl, _, _, rfl, rfl, f4, Nat.lt_of_le_of_lt (m := 100000) (by omega) (by decide), ?_⟩
        have tk3 : TK H3 (upd (upd H3 p2 (.tup [.ref ra, .bl ld, .bl ls])) fl (.lst (fv ++ [.ref p2]))) := (tk_same s4).trans (tk_put f4)
        have s5 : Same H (upd (upd H3 p2 (.tup [.ref ra, .bl ld, .bl ls])) fl (.lst (fv ++ [.ref p2]))) := same_mut (s3.trans s4) hfl
        have f5 : upd (upd H3 p2 (.tup [.ref ra, .bl ld, .bl ls])) fl (.lst (fv ++ [.ref p2])) fl = some (.lst (fv ++ [.ref p2])) := upd_same
        have w5 : upd (upd H3 p2 (.tup [.ref ra, .bl ld, .bl ls])) fl (.lst (fv ++ [.ref p2])) wl = some (.lst rs.reverse) := by
          rw [upd_ne (Ne.symm hfw)]
          exact s4 _ _ w3
        have c7 : upd (upd H3 p2 (.tup [.ref ra, .bl ld, .bl ls])) fl (.lst (fv ++ [.ref p2])) p2 = some (.tup [.ref ra, .bl ld, .bl ls]) := tk_put f4 _ _ upd_same
        have k6 : All2 (MkV (upd (upd H3 p2 (.tup [.ref ra, .bl ld, .bl ls])) fl (.lst (fv ++ [.ref p2])))) (allMk (es.take i) ++ (fs ++ [(ks, ld, ls)]).map fun m => (e.1, m)) (fv ++ [.ref p2]) := by
          rw [List.map_append, ← List.append_assoc]
          exact (k4.imp fun _ _ z => MkV.tk tk3 z).app ⟨⟨p2, _, rfl, c7, tk3 _ _ c5⟩, trivial⟩
        have k7 := k5.imp fun _ _ z => EnV.tk tk3 z
        have c8 := tk3 _ _ c5
        have c9 := c6.tk tk3
        clear tk3 c7
        generalize upd (upd H3 p2 (.tup [.ref ra, .bl ld, .bl ls])) fl (.lst (fv ++ [.ref p2])) = H5 at s5 f5 w5 k6 k7 c8 c9
        -- parts = parts_of(term)
        obtain ⟨h, n, kf⟩ := t1
        obtain ⟨ys, l, hk⟩ := c9
        refine ⟨_, rfl, b, h, _, rfl, l, fun pp H6 s6 g10 => ?_⟩
        have f6 := s6 _ _ f5
        have w6 := s6 _ _ w5
        have s56 : Same H H6 := s5.trans s6
        have k8 := k6.imp fun _ _ z => MkV.tk (tk_same s6) z
        have k9 := k7.imp fun _ _ z => EnV.tk (tk_same s6) z
        have g11 := s6 _ _ c8
        have hk6 : ∀ i, At H6 (kf i) (ys i) := fun i => (hk i).mono s6
        obtain ⟨r0, hd0⟩ := (l.mono s6).head
        have hkl : (Rfs ys).length = n := List.length_ofFn
        have hkl2 : (List.ofFn kf).length = n := List.length_ofFn
        have hcn : cnt (.mk h n kf) = 1 + cnts (List.ofFn kf) := cnt_mk
        have hec : ecnt ((ks, .mk h n kf, ld, ls) :: es2) = 1 + cnts (List.ofFn kf) + ecnt es2 := by
          show cnt (.mk h n kf) + ecnt es2 = _
          rw [hcn]
        have hnk := len_cnts (List.ofFn kf)
        have hes := len_cnts (es2.map (·.2.1))
        rw [List.length_map] at hes
        have hes2 : es2.length ≤ ecnt es2 := hes
        refine ⟨_, rfl, pp, _, rfl, .inr (SqT.of g10), _, rfl, by decide, by decide, by omega, by omega, ?_⟩
        rw [hkl]
        have e0 : ((n : Int) - 0).toNat = n := by omega
        rw [e0]
        refine for_rangeC (lo := 0 + (n : Int) - 1) (c := -1) (n := n) (MkdI H p fl e.1 rn body wl b ra pp h ld ls (allMk (es.take i)) (fs ++ [(ks, ld, ls)]) ks (List.ofFn kf) es2 (Rfs ys)) ?_ ?_ ?_
        · refine ⟨_, _, _, rfl, s56, ⟨_, f6, k8⟩, ⟨rs, w6, ?_⟩, g11, g10, Stk.fn hk6, r0, hd0⟩
          rw [Nat.sub_zero, List.drop_length]
          exact k9
        · rintro i2 σ' H7 hi ⟨o11', o12', o13', rfl, r1, ⟨fv7, r2, r3⟩, ⟨rs7, r4, r5⟩, r6, r7, r8, r0', r9⟩
          rw [hkl2] at r5
          have hj : n - i2 - 1 < n := by omega
          have ej : (0 : Int) + (n : Int) - 1 + ((i2 : Nat) : Int) * (-1) = ((n - i2 - 1 : Nat) : Int) := by omega
          rw [ej]
          obtain ⟨v, hv⟩ : ∃ v, (Rfs ys)[n - i2 - 1]? = some v := ⟨_, List.getElem?_eq_getElem (by rw [hkl]; exact hj)⟩
          obtain ⟨tj, htj, bj, rfl, hbj⟩ := r8.get hv
          have hes6 := r5.len
          rw [List.length_append, ents_len, List.length_drop, hkl2] at hes6
          -- is_part_led, is_part_last = marks_of_part(..)
          refine ⟨_, rfl, b, _, _, _, rfl, rfl, SqT.of r9, at0, _, rfl, _, rfl, _, rfl, h, n - i2 - 1, ld, ls, rfl, fun p3 hp3 => ?_⟩
          have t3 := same_new hp3 (.tup [.bl (pmk h (n - i2 - 1) ld ls).1, .bl (pmk h (n - i2 - 1) ld ls).2])
          refine ⟨p3, _, rfl, SqT.of upd_same, rfl, _, _, rfl, _, _, rfl, rfl, ?_⟩
          have r4b := t3 _ _ r4
          refine ⟨_, rfl, .inl ⟨rfl, _, SqL.of r4b⟩, _, rfl, ra, _, rfl, .inl (SqT.of (t3 _ _ r6)), _, rfl, sz ?_, fun p4 hp4 => ?_⟩
          · have z9 : (ks, ld, ls) ∈ marks e.2.2 true true := by
              rw [← hP, spread_cons, marks_mk]
              refine List.mem_append_right _ (List.mem_append_left _ ?_)
              rw [List.map_cons]
              exact List.mem_cons.mpr (.inl (by rw [List.append_nil]))
            have z8 : ks.length < cnt e.2.2 := marks_short e.2.2 true true (ks, ld, ls) z9
            show ((.str e.1 :: ks.map V.int) ++ [V.int ((n - i2 - 1 : Nat) : Int)]).length ≤ 100000
            rw [List.length_append, List.length_cons, List.length_map, List.length_singleton]
            omega
          have t4 := same_new hp4 (.tup ((.str e.1 :: ks.map V.int) ++ [.int ((n - i2 - 1 : Nat) : Int)]))
          refine ⟨_, rfl, _, rfl, pp, _, _, _, rfl, rfl, SqT.of (t4 _ _ (t3 _ _ r7)), atI_nat hv, _, rfl, _, rfl, sz (by show 4 ≤ 100000; decide), fun p5 hp5 => ?_⟩
          have t5 := same_new hp5 (.tup [.ref p4, .ref bj, .bl (pmk h (n - i2 - 1) ld ls).1, .bl (pmk h (n - i2 - 1) ld ls).2])
          have tt := t3.trans (t4.trans t5)
          have w7 := tt _ _ r4
          refine ⟨wl, _, _, rfl, rfl, w7, Nat.lt_of_le_of_lt (m := 2000) (by rw [List.length_reverse]; omega) (by decide), ?_⟩
          have tk6 := (tk_same tt).trans (tk_put (o := .lst (rs7.reverse ++ [.ref p5])) w7)
          refine ⟨_, _, _, rfl, same_mut (r1.trans tt) hw0, ⟨fv7, ?_, r3.imp fun _ _ z => MkV.tk tk6 z⟩, ⟨.ref p5 :: rs7, ?_, ?_⟩, tk6 _ _ r6, tk6 _ _ r7, r8.tk tk6, r0', tk6 _ _ r9⟩
          · rw [upd_ne hfw]
            exact tt _ _ r2
          · rw [upd_same, List.reverse_cons]
          · rw [hkl2]
            have e2 : n - (i2 + 1) = n - i2 - 1 := by omega
            have e3 : n - i2 - 1 + 1 = n - i2 := by omega
            rw [e2, ents_drop (by rw [hkl2]; exact hj), e3]
            refine ⟨⟨p5, p4, bj, rfl, ?_, ?_, ?_⟩, r5.imp fun _ _ z => EnV.tk tk6 z⟩
            · exact tk_put w7 _ _ upd_same
            · have z := (tk_same t5).trans (tk_put (o := .lst (rs7.reverse ++ [.ref p5])) w7) _ _ (upd_same (a := p4) (o := .tup ((.str e.1 :: ks.map V.int) ++ [.int ((n - i2 - 1 : Nat) : Int)])))
              rw [z]
              simp
            · have e9 : (List.ofFn kf)[n - i2 - 1]'(by rw [hkl2]; exact hj) = tj := by
                rw [List.getElem?_eq_getElem (by rw [hkl2]; exact hj)] at htj
                exact Option.some.inj htj
              show At _ ((List.ofFn kf)[n - i2 - 1]'(by rw [hkl2]; exact hj)) bj
              rw [e9]
              exact hbj.tk tk6
        · rintro σ' H7 ⟨o11', o12', o13', rfl, r1, ⟨fv7, r2, r3⟩, ⟨rs7, r4, r5⟩, r6, r7, r8, r0', r9⟩
          rw [hkl2, Nat.sub_self, List.drop_zero] at r5
          have e3 : ecnt (ents h ld ls ks 0 (List.ofFn kf) ++ es2) = cnts (List.ofFn kf) + ecnt es2 := by
            unfold ecnt
            rw [List.map_append, ents_snd, cnts_app]
          refine ⟨_, ?_, _, _, _, _, _, _, _, _, fs ++ [(ks, ld, ls)], fv7, rs7, _, rfl, r1, hw0, hfw, r2, r3, r4, r5, rfl, ?_, ?_⟩
          · rw [e3, hec]
            omega
          · rw [e3, List.length_append, List.length_singleton]
            omega
          · rw [← hP, spread_cons, spread_app, spread_ents, marks_mk]
            simp
  · rintro σ H1 ⟨o2, o3, o4, o5, o6, o7, o8, o9, o10, o11, o12, o13, its, rfl, s1, h1, k1⟩
    refine ⟨_, rfl, ?_⟩
    rw [hB.2.len, List.take_length] at k1
    exact q _ _ _ hfl s1 h1 k1
end
end KB

namespace KB
open PySem L2 PyProof.Rows
open PySem.AutoSeq1 (wpAny_loadPart')

/-! ### enumerate(tuple): the layer has it over lists alone -/
theorem new_enumT (l : Addr) (us : Array Value) (n : Nat) (dd : Option Addr) (sl : Array (Option Value)) :
    Meets (Builtin.«enumerate.__new__» ⟨[.type "enumerate", .ref l], []⟩) (fun _ R s =>
      s.heap.get? l = some { cls := .type "tuple", dict := dd, data := .seq us n, slots := sl } ∧
      R (.ok (.ret (.ref (s.heap.push { cls := .type "tuple_iterator", data := .fields #[.ref l, .int 0 0] }).objs.size)))
        { s with heap := (s.heap.push { cls := .type "tuple_iterator", data := .fields #[.ref l, .int 0 0] }).push { cls := .type "enumerate", data := .fields #[.none, .bool false, .ref s.heap.objs.size, rawInt 0, .none, .none] } }) := by
  refine .of_wp fun prog w A R s h => ?_
  obtain ⟨hp, g, d, tk, os⟩ := s
  obtain ⟨hl, h⟩ := h
  have hsub := sub_enumerate
  have hL : Heap.IsTuple (Shared.heap ⟨hp, g, d, tk, os⟩) l us := ⟨_, hl, rfl, n, rfl⟩
  wp_walk using wpAny_loadPart' hl
  refine wpAny_stack_any fun st => wpAny_pure ?_
  split
  · rename_i c _ _ _ _ _
    cases (c == Value.type "enumerate")
    all_goals
      wp_walk using wpAny_loadPart' hl, wpAny_pyIter_tuple hL
      exact ⟨_, rfl, h⟩
  · wp_walk using wpAny_loadPart' hl, wpAny_pyIter_tuple hL
    exact ⟨_, rfl, h⟩
section
variable {prog : Program} {w : World} {A : Around} {E : Value → Shared → Prop} {s : Shared}
theorem call_enumT {l : Addr} {us : Array Value} {Q : Value → Shared → Prop} (hL : s.heap.IsTuple l us)
    (h : ∀ h', IsEnum h' (s.heap.objs.size + 1) s.heap.objs.size 0 .none → h'.IsTupleIter s.heap.objs.size l 0 →
      (∀ b o, s.heap.get? b = some o → h'.get? b = some o) → Q (.ref (s.heap.objs.size + 1)) { s with heap := h' }) :
    wpAny (model prog w) A (call (.type "enumerate") [.ref l]) Q E s := by
  obtain ⟨⟨c, dct, dt, sl⟩, hl, hc, n, hd⟩ := hL
  cases (show c = .type "tuple" from hc)
  cases (show dt = .seq us n from hd)
  refine callType_new F.called_enumerate (by decide) (F.typeCall_enumerate_1 _) (F.newCall_enumerate_1 _) (fun obj => F.args_object_init_2 obj _) F.entry_enumerate_new
    (new_enumT l us n dct sl) ⟨hl, ?_⟩
  have hz : (s.heap.push { cls := .type "tuple_iterator", data := .fields #[.ref l, .int 0 0] }).objs.size = s.heap.objs.size + 1 := Heap.size_push ..
  show _ ∧ _
  rw [hz]
  have g0 := Heap.get?_push_size (s.heap.push { cls := .type "tuple_iterator", data := .fields #[.ref l, .int 0 0] })
    (o := { cls := .type "enumerate", data := .fields #[.none, .bool false, .ref s.heap.objs.size, rawInt 0, .none, .none] }) rfl
  rw [hz] at g0
  refine ⟨⟨_, g0, rfl⟩, h _ g0 ⟨_, Heap.get?_push_of_some _ (Heap.get?_push_size _ rfl), rfl, rfl⟩ fun b o x => ?_⟩
  exact Heap.get?_push_of_some _ (Heap.get?_push_of_some _ x)
end
theorem drawsT {prog : Program} {w : World} {A : Around} (hh : A.handled = none) (it l : Addr) (hne : l ≠ it) (us : Array Value) :
    Draws prog w A it [it, l] us.size (fun i v => us[i]? = some v) (fun i h => h.IsTupleIter it l i ∧ h.IsTuple l us) where
  live := fun _ _ st => let ⟨o, ho, _⟩ := st.1; ⟨o, ho⟩
  frame := fun _ _ _ st hk => ⟨st.1.at fun o e => hk it (by simp) o e, let ⟨o, ho, r⟩ := st.2; ⟨o, hk l (by simp) o ho, r⟩⟩
  item := fun i s Q E hi st hQ => by
    refine RZ.nextOf_tuple_item st.1 st.2 (x := us[i]) (by simp [hi]) fun h' hit' hs' => ?_
    exact hQ _ h' s.toks (by simp [hi]) ⟨hit', st.2.extBut hs'.extBut hne⟩ hs'
  done := fun s Q E st hE => RZ.nextOf_tuple_end hh st.1 st.2 (by simp) hE
/-- the tuple at a, each item in a new pair -/
def IteT (K : PySem.W.Frag) (a : Addr) : It where
  go := fun i H => ∃ (xs : List V) (x : V), SqT K H a xs ∧ xs[i]? = some x
  yld := fun i H v H' => ∃ T x, v = .ref T ∧ H T = none ∧ H' = upd H T (.tup [.int (i : Nat), x]) ∧ ∀ xs, SqT K H a xs → xs[i]? = some x
  stop := fun i H => ∃ xs : List V, SqT K H a xs ∧ xs.length = i
theorem turn_enumT {P : Program} {w : World} {K : PySem.W.Frag} {elts : List Expr} {kk : Nat} {tpos : Pos} (a e it : Addr) :
    Turn P w K (.Tuple elts kk tpos) (IteT K a) [e, it] e (fun i h => (∃ old, IsEnum h e it ((i : Nat) : Int) old) ∧ h.IsTupleIter it a i ∧ e ≠ it ∧ a ≠ it ∧ a ≠ e) where
  mem := by simp
  obj := fun i h st b hb => by
    obtain ⟨⟨old, he⟩, ⟨o, ho, hc, hd⟩, _⟩ := st
    have e' : b = e ∨ b = it := by simpa using hb
    rcases e' with z | z
    · rw [z]; exact ⟨_, he, fun v q => nomatch q⟩
    · rw [z]; exact ⟨o, ho, fun v q => by rw [hd] at q; cases q⟩
  keep := fun i h h' st k => let ⟨⟨old, he⟩, hi, hne⟩ := st; ⟨⟨old, k e (by simp) _ he⟩, hi.at fun o q => k it (by simp) o q, hne⟩
  item := by
    intro X hP hw hK hc i pins s σ H E I hf st hg
    subst hP hw hK
    obtain ⟨⟨old, he⟩, hit, hne, hai, hae⟩ := st
    obtain ⟨xs, x, hq, hx⟩ := hg
    obtain ⟨its, rv, p, hz⟩ := I.tuple hq
    obtain ⟨u, hu, ru⟩ := rv.get hx
    have hel : e < s.heap.objs.size := Heap.lt_size he
    have hil : it < s.heap.objs.size := by obtain ⟨_, q, _⟩ := hit; exact Heap.lt_size q
    have hiz : i < its.toArray.size := by
      have := (List.getElem?_eq_some_iff.mp hu).1
      simpa using this
    refine wpAny_pyNext_enum_itemD (drawsT (A := X.A.in1) (show X.A.in1.handled = none from I.ok.hd hc) it a hai its.toArray) he ⟨hit, p⟩ hiz hne (by simp [hne, Ne.symm hae]) fun y h' tk hy ho hst hT hsz hk => ?_
    have ey : y = u := by
      have h2 : its.toArray[i]? = some u := by simpa using hu
      rw [hy] at h2
      exact Option.some.inj h2
    subst ey
    refine ⟨_, rfl, wpAny_letOwnedTupleGo_enum (s := { s with heap := h', toks := tk + 1 }) ho fun h'' he' sb => ?_⟩
    have hT2 : h''.get? s.heap.objs.size = some { cls := .type "tuple", data := .seq #[.int i tk, y] } := (sb.2 _ (Nat.ne_of_gt hel)).trans hT
    have new : ObjOk X.prog X.w (upd H s.heap.objs.size (.tup [.int (i : Nat), x])) h'' s.heap.objs.size (.tup [.int (i : Nat), x]) :=
      ⟨by show 2 ≤ sizeLine; decide, [.int i tk, y], .cons ⟨_, rfl⟩ (.cons ru .nil), ⟨_, hT2, rfl, _, rfl⟩⟩
    have I1 : Inv X pins σ (upd H s.heap.objs.size (.tup [.int (i : Nat), x])) { s with heap := h'', toks := tk + 1 } :=
      I.turnedNew (ch := [e, it]) (fun b ob hb q => (sb.2 b (fun z => hb (by simp [z]))).trans (hk b ob (fun z => hb (by simp [z])) (fun z => hb (by simp [z])) q)) hf (Nat.le_refl _) new
    refine ⟨.ref s.heap.objs.size, _, I1, rfl, ⟨_, x, rfl, I.hok.fresh (Nat.le_refl _), rfl, fun ys hy => by rw [I.tuple_inj hy hq]; exact hx⟩, ⟨⟨y, ?_⟩, hst.1.at fun o q => (sb.2 it (Ne.symm hne)).trans q, hne, hai, hae⟩, fun b hb => ?_⟩
    · have e1 : ((i + 1 : Nat) : Int) = (i : Int) + 1 := by omega
      rw [e1]
      exact he'
    · have hb' : b < s.heap.objs.size := by
        have e' : b = e ∨ b = it := by simpa using hb
        rcases e' with z | z
        · rw [z]; exact hel
        · rw [z]; exact hil
      rw [upd_ne (Nat.ne_of_lt hb')]
      exact (hf b hb).1
  done := by
    intro X hP hw hK hc i pins s σ H E I hf st hg
    subst hP hw hK
    obtain ⟨⟨old, he⟩, hit, hne, hai, hae⟩ := st
    obtain ⟨xs, hq, hx⟩ := hg
    obtain ⟨its, rv, p, hz⟩ := I.tuple hq
    obtain ⟨f0, f1, f2, f3, f4, f5⟩ := hf it (by simp)
    have hl := rv.length
    have hge : i = its.toArray.size := by
      rw [List.size_toArray]
      omega
    subst hge
    exact wpAny_pyNext_enum_endD (drawsT (A := X.A.in1) (show X.A.in1.handled = none from I.ok.hd hc) it a hai its.toArray) he ⟨hit, p⟩ fun h' eb => ⟨rfl, I.turned (t' := s.toks) (fun b o hb e => eb b o hb e) f0 f1 f3 f4 f5⟩
  self := fun A i s Q E st h => let ⟨⟨_, he⟩, _⟩ := st; wpAny_pyIter_enum he h
def iEnumT (K : PySem.W.Frag) (ta : TA) : TI := fun σ H R => ta σ H fun vs H1 => ∃ a xs, vs = [.ref a] ∧ SqT K H1 a xs ∧ R (IteT K a) H1
theorem pi_enumT {X : Cx} {e : Expr} {ta : TA} {p pos tpos : Pos} {elts : List Expr} {kk : Nat} (hg : Gl X "enumerate") (hm : X.mg "enumerate" = none) (ha : PA X [e] ta) (hs : starEach [e] X.env = [(false, eval e X.env)] := by rfl) :
    PI X (.Tuple elts kk tpos) (.Call (.Name "enumerate" p) [e] [] pos) (iEnumT X.K ta) := by
  refine ⟨fun pins s σ H R I h => ?_⟩
  refine Call_ (ld_blt I hg hm boot_enumerate (PyProof.Rows.callWith_type1 (thn (ha.run pos pins s σ H _ I h) fun us s1 ⟨vs, H1, I1, r1, q1⟩ => ?_) hs rfl))
  obtain ⟨a, xs, ex, hq, q⟩ := q1
  subst ex
  cases r1 with
  | cons r rr =>
    cases rr
    cases r
    obtain ⟨its, rv, p', hz⟩ := I1.tuple hq
    have hal : a < s1.heap.objs.size := by obtain ⟨_, z, _⟩ := p'; exact Heap.lt_size z
    refine call_enumT p' fun h' he hit hk => wpAny_pyIter_enum he ?_
    have I2 : Inv X pins σ H1 { s1 with heap := h' } := I1.kept (t' := s1.toks) hk
    refine ⟨s1.heap.objs.size + 1, [s1.heap.objs.size + 1, s1.heap.objs.size], _, _, H1, rfl, I2, turn_enumT a (s1.heap.objs.size + 1) s1.heap.objs.size, ⟨⟨.none, he⟩, hit, Nat.succ_ne_self _, Nat.ne_of_lt hal, Nat.ne_of_lt (Nat.lt_succ_of_lt hal)⟩, fun b hb => ?_, q⟩
    have hle : s1.heap.objs.size ≤ b := by
      have e' : b = s1.heap.objs.size + 1 ∨ b = s1.heap.objs.size := by simpa using hb
      rcases e' with z | z
      · rw [z]
        exact Nat.le_add_right _ _
      · rw [z]
        exact Nat.le_refl _
    exact I1.fpOk hle (I1.hok.fresh hle)
end KB
namespace KB
open PySem L2
theorem for_enT {K : PySem.W.Frag} {a : Addr} {xs : List V} {g : TG} {tb : TS} {D : Ends} {σ : St} {H : Hp} (Pv : Nat → St → Hp → Prop) (h0 : Pv 0 σ H) (hl : ∀ i σ H, i ≤ xs.length → Pv i σ H → SqT K H a xs)
    (hs : ∀ i x T σ H, xs[i]? = some x → H T = none → Pv i σ H → g (.ref T) σ (upd H T (.tup [.int (i : Nat), x])) fun σ2 H2 => tb { D with nx := Pv (i + 1), ct := Pv (i + 1), bk := D.nx } σ2 H2) (hd : ∀ σ H, Pv xs.length σ H → D.nx σ H) :
    ∃ W : Nat → Nat → St → Hp → Prop, (∃ m, W 0 m σ H) ∧ ∀ i m σ H, W i m σ H →
      ((IteT K a).stop i H ∧ D.nx σ H) ∨ ((IteT K a).go i H ∧ ∃ N : St → Hp → Prop, (∀ σ' H', N σ' H' → ∃ m', m' < m ∧ W (i + 1) m' σ' H') ∧ ∀ x H', (IteT K a).yld i H x H' → g x σ H' fun σ2 H2 => tb { D with nx := N, ct := N, bk := D.nx } σ2 H2) := by
  refine ⟨fun i m σ H => m = xs.length - i ∧ i ≤ xs.length ∧ Pv i σ H, ⟨xs.length, by simp, Nat.zero_le _, h0⟩, ?_⟩
  rintro i m σ H ⟨rfl, hi, p⟩
  have q := hl i σ H hi p
  by_cases hlt : i < xs.length
  · refine .inr ⟨⟨xs, xs[i], q, by simp [hlt]⟩, Pv (i + 1), fun σ' H' p' => ⟨xs.length - (i + 1), by omega, rfl, hlt, p'⟩, fun x H' y => ?_⟩
    obtain ⟨T, z, rfl, hT, rfl, hz⟩ := y
    exact hs i z T σ H (hz xs q) hT p
  · have e : i = xs.length := by omega
    subst e
    exact .inl ⟨⟨xs, q, rfl⟩, hd σ H p⟩

section
variable {P : Program} {w : World} {K : PySem.W.Frag} {mg : Str → Option Value} {base : Heap}
abbrev s_law_parts : Stmt := top 43
theorem scLparts : FnScope ["term"] ["term"] (defScope s_law_parts) := ⟨rfl, rfl, rfl, by decide +kernel, rfl, by decide +kernel, by decide +kernel⟩
theorem ok_Lparts (T : Txt K mg) {f : Addr} {fd : FuncData} (F : Fun K "_law_parts" "_law_parts" s_law_parts f fd) : FnOk P w K mg base CX0 1 f fd ["term"] spParts := by
  refine F.ok scLparts (fun vs H Q E h => ?_) (fun cdv A outer s H vs Q E hr h => ?_)
  · obtain ⟨a, h, xs, rfl, _⟩ := h
    rfl
  obtain ⟨a, h, xs, rfl, l, q⟩ := h
  refine ⟨_, (pss_cons (ps_if (pt_cmpR op_in_seq (pe_ix ix_tup (pv 0) pe_int (fun _ _ => rfl)) (pe_tup (pa_cons pe_str (pa_cons pe_str pa_nil))) rfl) (pss_one (ps_ret (pe_tup pa_nil))) pss_nil)
    (pss_cons (ps_if (pt_cmpR op_eq (pe_ix ix_tup (pv 0) pe_int (fun _ _ => rfl)) pe_str (nomark _)) (pss_one (ps_ret (pe_ix ix_tup (pv 0) pe_int (fun _ _ => rfl)))) pss_nil)
    (pss_one (ps_ret (pe_slice sl_tupA (pv 0) (po_some (pe_op op_add pe_int (pe_callTy call_int1 (by rfl) T.m_int (by decide +kernel) (pa_cons (pe_cmpR op_eq (pe_ix ix_tup (pv 0) pe_int (fun _ _ => rfl)) pe_str (nomark _)) pa_nil)))) po_none))))), ?_⟩
  obtain ⟨r, hd⟩ := l.head
  refine ⟨_, rfl, a, _, _, _, rfl, rfl, SqT.of hd, at0, sz (by show 2 ≤ 100000; decide), fun t ht => ?_⟩
  have s1 := same_new ht (.tup [.str "number", .str "name"])
  refine ⟨t, _, rfl, .inr (SqT.of upd_same), rfl, rfl, _, rfl, ?_⟩
  cases h with
  | num z =>
    refine itT rfl ⟨sz (by decide), fun p hp => q p _ (s1.trans (same_new hp _)) ?_⟩
    rw [l.1, upd_same]
  | nam z =>
    refine itT rfl ⟨sz (by decide), fun p hp => q p _ (s1.trans (same_new hp _)) ?_⟩
    rw [l.1, upd_same]
  | ask f =>
    obtain ⟨l1, p, l2, l3⟩ := l
    refine itF rfl ⟨_, rfl, a, _, _, _, rfl, rfl, SqT.of (s1 _ _ l2), at0, rfl, _, rfl, ?_⟩
    refine itT rfl ⟨_, rfl, a, _, _, _, rfl, rfl, SqT.of (s1 _ _ l2), at2, ?_⟩
    exact q p _ s1 (s1 _ _ l3)
  | lett x =>
    refine itF rfl ⟨_, rfl, a, _, _, _, rfl, rfl, SqT.of (s1 _ _ l.2), at0, rfl, _, rfl, ?_⟩
    refine itF rfl ⟨_, rfl, _, rfl, a, _, _, _, rfl, rfl, SqT.of (s1 _ _ l.2), at0, rfl, .inr ⟨_, rfl, _, _, rfl, rfl, _, rfl, a, _, rfl, SqT.of (s1 _ _ l.2), ?_, ?_⟩⟩
    · exact fun z => absurd z (not_whole (i := 2) (by decide) len2)
    · intro _ p hp
      refine q p _ (s1.trans (same_new hp _)) ?_
      rw [upd_same]
      exact congrArg (fun z => some (HO.tup z)) cut2
  | plus | less | tell | iff =>
    refine itF rfl ⟨_, rfl, a, _, _, _, rfl, rfl, SqT.of (s1 _ _ l.2), at0, rfl, _, rfl, ?_⟩
    refine itF rfl ⟨_, rfl, _, rfl, a, _, _, _, rfl, rfl, SqT.of (s1 _ _ l.2), at0, rfl, .inr ⟨_, rfl, _, _, rfl, rfl, _, rfl, a, _, rfl, SqT.of (s1 _ _ l.2), ?_, ?_⟩⟩
    · exact fun z => absurd z (not_whole (i := 1) (by decide) len1)
    · intro _ p hp
      refine q p _ (s1.trans (same_new hp _)) ?_
      rw [upd_same]
      exact congrArg (fun z => some (HO.tup z)) cut1
end
end KB

namespace KB
open PySem L2 HT

/-! ### those that are last, those that are led on -/
def lastsOf (l : List Mk3) : List (List Int) := (l.filter (·.2.2)).map (·.1)
def ledsOf (l : List Mk3) : List (List Int) := (l.filter (·.2.1)).map (·.1)
theorem lasts_app (a b : List Mk3) : lastsOf (a ++ b) = lastsOf a ++ lastsOf b := by
  unfold lastsOf
  rw [List.filter_append, List.map_append]
theorem leds_app (a b : List Mk3) : ledsOf (a ++ b) = ledsOf a ++ ledsOf b := by
  unfold ledsOf
  rw [List.filter_append, List.map_append]
theorem lasts_map (l : List Mk3) (g : List Int → List Int) : lastsOf (l.map fun m => (g m.1, m.2)) = (lastsOf l).map g := by
  induction l with
  | nil => rfl
  | cons m r ih =>
    unfold lastsOf at ih ⊢
    rw [List.map_cons]
    by_cases h : m.2.2 = true
    · rw [List.filter_cons_of_pos (by exact h), List.filter_cons_of_pos (by exact h), List.map_cons, List.map_cons, List.map_cons, ih]
    · rw [List.filter_cons_of_neg (by exact h), List.filter_cons_of_neg (by exact h), ih]
theorem leds_map (l : List Mk3) (g : List Int → List Int) : ledsOf (l.map fun m => (g m.1, m.2)) = (ledsOf l).map g := by
  induction l with
  | nil => rfl
  | cons m r ih =>
    unfold ledsOf at ih ⊢
    rw [List.map_cons]
    by_cases h : m.2.1 = true
    · rw [List.filter_cons_of_pos (by exact h), List.filter_cons_of_pos (by exact h), List.map_cons, List.map_cons, List.map_cons, ih]
    · rw [List.filter_cons_of_neg (by exact h), List.filter_cons_of_neg (by exact h), ih]
theorem lasts_cons (h : Hd) (ld ls : Bool) (j : Nat) (t : Tm) (ts : List Tm) : lastsOf (marksL h ld ls j (t :: ts)) = (lastsOf (marks t (pmk h j ld ls).1 (pmk h j ld ls).2)).map ((j : Int) :: ·) ++ lastsOf (marksL h ld ls (j + 1) ts) := by
  show lastsOf ((marks t _ _).map (fun m => ((j : Int) :: m.1, m.2)) ++ _) = _
  rw [lasts_app, lasts_map]
theorem leds_cons (h : Hd) (ld ls : Bool) (j : Nat) (t : Tm) (ts : List Tm) : ledsOf (marksL h ld ls j (t :: ts)) = (ledsOf (marks t (pmk h j ld ls).1 (pmk h j ld ls).2)).map ((j : Int) :: ·) ++ ledsOf (marksL h ld ls (j + 1) ts) := by
  show ledsOf ((marks t _ _).map (fun m => ((j : Int) :: m.1, m.2)) ++ _) = _
  rw [leds_app, leds_map]
theorem pmk_ls (h : Hd) (i : Nat) (ld ls ls' : Bool) : (pmk h i ld ls).1 = (pmk h i ld ls').1 := by
  unfold pmk
  by_cases c : 0 < i
  · rw [if_pos c, if_pos c]
    cases h <;> rfl
  · rw [if_neg c, if_neg c]
theorem pmk_ld (h : Hd) (i : Nat) (ld ld' ls : Bool) : (pmk h i ld ls).2 = (pmk h i ld' ls).2 := by
  unfold pmk
  by_cases c : 0 < i
  · rw [if_pos c, if_pos c]
    cases h <;> rfl
  · rw [if_neg c, if_neg c]
theorem pmk_no (h : Hd) (i : Nat) (ld : Bool) : (pmk h i ld false).2 = false := by
  unfold pmk
  by_cases c : 0 < i
  · rw [if_pos c]
    cases h <;> rfl
  · rw [if_neg c]
theorem leds_ls : ∀ (t : Tm) (ld ls ls' : Bool), ledsOf (marks t ld ls) = ledsOf (marks t ld ls') := by
  have go : ∀ (h : Hd) (ld ls ls' : Bool) (ts : List Tm) (j : Nat), (∀ t ∈ ts, ∀ a b b', ledsOf (marks t a b) = ledsOf (marks t a b')) → ledsOf (marksL h ld ls j ts) = ledsOf (marksL h ld ls' j ts) := by
    intro h ld ls ls' ts
    induction ts with
    | nil => intro j _; rfl
    | cons t r ih =>
      intro j hh
      rw [leds_cons, leds_cons, ih (j + 1) fun u hu => hh u (List.mem_cons_of_mem _ hu), pmk_ls h j ld ls ls', hh t List.mem_cons_self _ _ (pmk h j ld ls').2]
  intro t
  induction t with
  | mk h n k ih =>
    intro ld ls ls'
    rw [marks_mk, marks_mk]
    have e := go h ld ls ls' (List.ofFn k) 0 fun t ht => by
      obtain ⟨i, rfl⟩ := List.mem_ofFn.mp ht
      exact ih i
    show ledsOf ([([], ld, ls)] ++ _) = ledsOf ([([], ld, ls')] ++ _)
    rw [leds_app, leds_app, e]
    cases ld <;> rfl
theorem lasts_ld : ∀ (t : Tm) (ld ld' ls : Bool), lastsOf (marks t ld ls) = lastsOf (marks t ld' ls) := by
  have go : ∀ (h : Hd) (ld ld' ls : Bool) (ts : List Tm) (j : Nat), (∀ t ∈ ts, ∀ a a' b, lastsOf (marks t a b) = lastsOf (marks t a' b)) → lastsOf (marksL h ld ls j ts) = lastsOf (marksL h ld' ls j ts) := by
    intro h ld ld' ls ts
    induction ts with
    | nil => intro j _; rfl
    | cons t r ih =>
      intro j hh
      rw [lasts_cons, lasts_cons, ih (j + 1) fun u hu => hh u (List.mem_cons_of_mem _ hu), pmk_ld h j ld ld' ls, hh t List.mem_cons_self _ (pmk h j ld' ls).1 _]
  intro t
  induction t with
  | mk h n k ih =>
    intro ld ld' ls
    rw [marks_mk, marks_mk]
    have e := go h ld ld' ls (List.ofFn k) 0 fun t ht => by
      obtain ⟨i, rfl⟩ := List.mem_ofFn.mp ht
      exact ih i
    show lastsOf ([([], ld, ls)] ++ _) = lastsOf ([([], ld', ls)] ++ _)
    rw [lasts_app, lasts_app, e]
    cases ls <;> rfl
theorem lasts_no : ∀ (t : Tm) (ld : Bool), lastsOf (marks t ld false) = [] := by
  have go : ∀ (h : Hd) (ld : Bool) (ts : List Tm) (j : Nat), (∀ t ∈ ts, ∀ a, lastsOf (marks t a false) = []) → lastsOf (marksL h ld false j ts) = [] := by
    intro h ld ts
    induction ts with
    | nil => intro j _; rfl
    | cons t r ih =>
      intro j hh
      rw [lasts_cons, ih (j + 1) fun u hu => hh u (List.mem_cons_of_mem _ hu), pmk_no, hh t List.mem_cons_self]
      rfl
  intro t
  induction t with
  | mk h n k ih =>
    intro ld
    rw [marks_mk]
    show lastsOf ([([], ld, false)] ++ _) = _
    rw [lasts_app, go h ld (List.ofFn k) 0 fun t ht => by
      obtain ⟨i, rfl⟩ := List.mem_ofFn.mp ht
      exact ih i]
    rfl
def ends (t : Tm) : List (List Int) := lastsOf (marks t true true)
theorem ends_mk {h : Hd} {n : Nat} {k : _root_.Fin n → Tm} : ends (.mk h n k) = [] :: lastsOf (marksL h true true 0 (List.ofFn k)) := by
  unfold ends
  rw [marks_mk]
  show lastsOf ([([], true, true)] ++ _) = _
  rw [lasts_app]
  rfl
theorem kids_of (t : Tm) : ends t = [] :: lastsOf (marksL (hdT t) true true 0 (kidsT t)) := by
  cases t with
  | mk h n k => exact ends_mk
theorem lasts_flat {h : Hd} (hl : lazyH h = false) : ∀ (ts : List Tm) (j : Nat), lastsOf (marksL h true true j ts) = []
  | [], _ => rfl
  | t :: ts, j => by
    rw [lasts_cons, lasts_flat hl ts (j + 1)]
    have e : (pmk h j true true).2 = false := by
      unfold pmk
      by_cases c : 0 < j
      · rw [if_pos c]
        cases h <;> first | rfl | cases hl
      · rw [if_neg c]
    rw [e, lasts_no]
    rfl
theorem ends_flat {t : Tm} (hl : lazyH (hdT t) = false) : ends t = [[]] := by rw [kids_of, lasts_flat hl]
theorem ends_let {t : Tm} {x : Str} (hh : hdT t = .lett x) (hl : (kidsT t).length = 2) : ends t = [[]] ++ (ends (kid t 1)).map ((1 : Int) :: ·) := by
  rw [kids_of, hh]
  have e1 := kid_eq (t := t) (i := 1) (by omega)
  match hk : kidsT t, hl with
  | [a, b], _ =>
    rw [hk] at e1
    have e1' : b = kid t 1 := Option.some.inj e1
    rw [← e1', lasts_cons, lasts_cons]
    show [] :: ((lastsOf (marks a false false)).map _ ++ ((lastsOf (marks b true true)).map _ ++ [])) = _
    rw [lasts_no, List.append_nil]
    rfl
theorem ends_if {t : Tm} (hh : hdT t = .iff) (hl : (kidsT t).length = 3) : ends t = ([[]] ++ (ends (kid t 1)).map ((1 : Int) :: ·)) ++ (ends (kid t 2)).map ((2 : Int) :: ·) := by
  rw [kids_of, hh]
  have e1 := kid_eq (t := t) (i := 1) (by omega)
  have e2 := kid_eq (t := t) (i := 2) (by omega)
  match hk : kidsT t, hl with
  | [a, b, c], _ =>
    rw [hk] at e1 e2
    have e1' : b = kid t 1 := Option.some.inj e1
    have e2' : c = kid t 2 := Option.some.inj e2
    rw [← e1', ← e2', lasts_cons, lasts_cons, lasts_cons]
    show [] :: ((lastsOf (marks a false false)).map _ ++ ((lastsOf (marks b true true)).map _ ++ ((lastsOf (marks c true true)).map _ ++ []))) = _
    rw [lasts_no, List.append_nil]
    rfl
theorem marksL_take {h : Hd} {ld ls : Bool} : ∀ {ts : List Tm} {i j : Nat} {t : Tm}, ts[i]? = some t → marksL h ld ls j (ts.take (i + 1)) = marksL h ld ls j (ts.take i) ++ (marks t (pmk h (j + i) ld ls).1 (pmk h (j + i) ld ls).2).map fun m => (((j + i : Nat) : Int) :: m.1, m.2)
  | [], _, _, _, e => by simp at e
  | a :: ts, 0, j, t, e => by
    have e' : a = t := by simpa using e
    subst e'
    show (marks a _ _).map _ ++ marksL h ld ls (j + 1) [] = [] ++ _
    show (marks a _ _).map _ ++ [] = _
    rw [List.append_nil]
    rfl
  | a :: ts, i + 1, j, t, e => by
    have e' : ts[i]? = some t := by simpa using e
    show (marks a _ _).map _ ++ marksL h ld ls (j + 1) (ts.take (i + 1)) = ((marks a _ _).map _ ++ marksL h ld ls (j + 1) (ts.take i)) ++ _
    rw [marksL_take e', List.append_assoc]
    have e2 : j + 1 + i = j + (i + 1) := by omega
    rw [e2]
/-- what is last is led on -/
theorem last_led : ∀ (t : Tm) (ld ls : Bool), (ls = true → ld = true) → ∀ m ∈ marks t ld ls, m.2.2 = true → m.2.1 = true := by
  have pm : ∀ (h : Hd) (i : Nat) (ld ls : Bool), (ls = true → ld = true) → (pmk h i ld ls).2 = true → (pmk h i ld ls).1 = true := by
    intro h i ld ls hl
    unfold pmk
    by_cases c : 0 < i
    · rw [if_pos c]
      cases h with
      | lett x => exact hl
      | iff => exact fun _ => rfl
      | _ => exact fun z => by cases z
    · rw [if_neg c]
      exact fun z => by cases z
  have go : ∀ (h : Hd) (ld ls : Bool), (ls = true → ld = true) → ∀ (ts : List Tm) (j : Nat), (∀ t ∈ ts, ∀ a b, (b = true → a = true) → ∀ m ∈ marks t a b, m.2.2 = true → m.2.1 = true) → ∀ m ∈ marksL h ld ls j ts, m.2.2 = true → m.2.1 = true := by
    intro h ld ls hl ts
    induction ts with
    | nil =>
      intro j _ m hm
      cases hm
    | cons t r ih =>
      intro j hh m hm
      have hm' : m ∈ (marks t (pmk h j ld ls).1 (pmk h j ld ls).2).map (fun m => ((j : Int) :: m.1, m.2)) ++ marksL h ld ls (j + 1) r := hm
      rcases List.mem_append.mp hm' with z | z
      · obtain ⟨p', h1, rfl⟩ := List.mem_map.mp z
        exact hh t List.mem_cons_self _ _ (pm h j ld ls hl) p' h1
      · exact ih (j + 1) (fun u hu => hh u (List.mem_cons_of_mem _ hu)) m z
  intro t
  induction t with
  | mk h n k ih =>
    intro ld ls hl m hm
    rw [marks_mk] at hm
    rcases List.mem_cons.mp hm with z | z
    · rw [z]
      exact hl
    · exact go h ld ls hl _ 0 (fun t ht => by
        obtain ⟨i, rfl⟩ := List.mem_ofFn.mp ht
        exact ih i) m z
theorem lasts_leds (t : Tm) : ∀ ks ∈ ends t, ks ∈ ledsOf (marks t true true) := by
  intro ks hk
  unfold ends lastsOf at hk
  obtain ⟨m, hm, rfl⟩ := List.mem_map.mp hk
  obtain ⟨h1, h2⟩ := List.mem_filter.mp hm
  exact List.mem_map.mpr ⟨m, List.mem_filter.mpr ⟨h1, last_led t true true (fun _ => rfl) m h1 h2⟩, rfl⟩
theorem ends_len (t : Tm) : (ends t).length ≤ cnt t := by
  unfold ends lastsOf
  rw [List.length_map, ← marks_len t true true]
  exact List.length_filter_le _ _
theorem leds_len (t : Tm) (ld ls : Bool) : (ledsOf (marks t ld ls)).length ≤ cnt t := by
  unfold ledsOf
  rw [List.length_map, ← marks_len t ld ls]
  exact List.length_filter_le _ _
def lastPl (es : List Er) : List (Str × List Int) := (es.map fun e => (ends e.2.2).map fun ks => (e.1, ks)).flatten
def ledPl (es : List Er) : List (Str × List Int) := (es.map fun e => (ledsOf (marks e.2.2 true true)).map fun ks => (e.1, ks)).flatten
theorem last_all (es : List Er) : ((allMk es).filter (·.2.2.2)).map (fun m => (m.1, m.2.1)) = lastPl es := by
  induction es with
  | nil => rfl
  | cons e r ih =>
    have h3 : allMk (e :: r) = erMk e ++ allMk r := by
      unfold allMk
      rw [List.map_cons, List.flatten_cons]
    have h4 : lastPl (e :: r) = (ends e.2.2).map (fun ks => (e.1, ks)) ++ lastPl r := by
      unfold lastPl
      rw [List.map_cons, List.flatten_cons]
    rw [h3, h4, List.filter_append, List.map_append, ih]
    congr 1
    unfold erMk ends lastsOf
    generalize marks e.2.2 true true = l
    induction l with
    | nil => rfl
    | cons m l ih2 =>
      rw [List.map_cons]
      by_cases h : m.2.2 = true
      · rw [List.filter_cons_of_pos (by exact h), List.filter_cons_of_pos (by exact h), List.map_cons, List.map_cons, List.map_cons, ih2]
      · rw [List.filter_cons_of_neg (by exact h), List.filter_cons_of_neg (by exact h), ih2]
theorem led_all (es : List Er) : ((allMk es).filter (·.2.2.1)).map (fun m => (m.1, m.2.1)) = ledPl es := by
  induction es with
  | nil => rfl
  | cons e r ih =>
    have h3 : allMk (e :: r) = erMk e ++ allMk r := by
      unfold allMk
      rw [List.map_cons, List.flatten_cons]
    have h4 : ledPl (e :: r) = (ledsOf (marks e.2.2 true true)).map (fun ks => (e.1, ks)) ++ ledPl r := by
      unfold ledPl
      rw [List.map_cons, List.flatten_cons]
    rw [h3, h4, List.filter_append, List.map_append, ih]
    congr 1
    unfold erMk ledsOf
    generalize marks e.2.2 true true = l
    induction l with
    | nil => rfl
    | cons m l ih2 =>
      rw [List.map_cons]
      by_cases h : m.2.1 = true
      · rw [List.filter_cons_of_pos (by exact h), List.filter_cons_of_pos (by exact h), List.map_cons, List.map_cons, List.map_cons, ih2]
      · rw [List.filter_cons_of_neg (by exact h), List.filter_cons_of_neg (by exact h), ih2]
theorem last_in_led (es : List Er) : ∀ x ∈ lastPl es, x ∈ ledPl es := by
  intro x hx
  obtain ⟨l, hl, hx⟩ := List.mem_flatten.mp hx
  obtain ⟨e, he, rfl⟩ := List.mem_map.mp hl
  obtain ⟨ks, hk, rfl⟩ := List.mem_map.mp hx
  exact List.mem_flatten.mpr ⟨_, List.mem_map.mpr ⟨e, he, rfl⟩, List.mem_map.mpr ⟨ks, lasts_leds _ ks hk, rfl⟩⟩
end KB

namespace KB
open PySem L2 HT
def PlS (H : Hp) (x : Str × List Int) (v : V) : Prop := ∃ r, v = .ref r ∧ H r = some (.tup (.str x.1 :: x.2.map V.int))
theorem PlS.tk {H H' : Hp} (e : TK H H') {x : Str × List Int} {v : V} (h : PlS H x v) : PlS H' x v := let ⟨r, a, b⟩ := h; ⟨r, a, e _ _ b⟩
def PlP (H : Hp) (pre : List V) (ks : List Int) (v : V) : Prop := ∃ r, v = .ref r ∧ H r = some (.tup (pre ++ ks.map V.int))
theorem PlP.tk {H H' : Hp} (e : TK H H') {pre : List V} {ks : List Int} {v : V} (h : PlP H pre ks v) : PlP H' pre ks v := let ⟨r, a, b⟩ := h; ⟨r, a, e _ _ b⟩
theorem PlP.deep {H : Hp} {pre : List V} {i : Int} {ks : List Int} {v : V} (h : PlP H (pre ++ [.int i]) ks v) : PlP H pre (i :: ks) v := by
  obtain ⟨r, a, b⟩ := h
  refine ⟨r, a, ?_⟩
  rw [b, List.append_assoc]
  rfl
section
variable {P : Program} {w : World} {K : PySem.W.Frag} {mg : Str → Option Value} {base : Heap}

/-! ### last_places -/
def spLastP : Sp := fun vs H Q _ => ∃ (p : Addr) (es : List Er) (us : List V), vs = [.ref p] ∧ BkAt H es us p ∧ es.length ≤ 6 ∧ (∀ e ∈ es, cnt e.2.2 ≤ 1000) ∧
  ∀ p' H' its, H p' = none → Same H H' → H' p' = some (.lst its) → All2 (PlS H') (lastPl es) its → Q (.ref p') H'
abbrev slast_places : Stmt := top 12
theorem sclast_places : FnScope ["book", "place", "is_led", "is_last"] ["book"] (defScope slast_places) := ⟨rfl, rfl, rfl, by decide +kernel, rfl, by decide +kernel, by decide +kernel⟩
theorem ok_LastP {f g : Addr} {fd gd : FuncData} (F : Fun K "last_places" "last_places" slast_places f fd) (Gmarked_places : FnOk P w K mg base CX0 2 g gd ["book"] spMkd) (Rmarked_places : Ref K mg "marked_places" g gd ["book"]) : FnOk P w K mg base CX0 3 f fd ["book"] spLastP := by
  refine F.ok sclast_places (fun vs H Q E h => ?_) (fun cdv A outer s H vs Q E hr h => ?_)
  · obtain ⟨p, es, us, rfl, _⟩ := h
    rfl
  obtain ⟨p, es, us, rfl, hB, hl6, hc, q⟩ := h
  refine ⟨_, (pss_one (ps_ret (pe_lc (own := [("place", 1), ("is_led", 2), ("is_last", 3)]) (g := gTup K 3 (gCons (gName 1) (gCons (gName 2) (gCons (gName 3) gNil)))) (by rfl) sclast_places.nd (pi_list (pe_call Gmarked_places (hr.mono (by omega)) rfl Rmarked_places.m Rmarked_places.k Rmarked_places.b .nil pass0 (pa_cons (pv 0) pa_nil))) (blkOk_by (own := [("place", 1), ("is_led", 2), ("is_last", 3)]) (N := ["book", "place", "is_led", "is_last"]) (sc := defScope slast_places) (by decide +kernel)) (fun _ _ _ _ _ => (pg_tup rfl (pgs_cons (pg_name (i := 1) sclast_places.nd rfl (Or.inl rfl)) (pgs_cons (pg_name (i := 2) sclast_places.nd rfl (Or.inl rfl)) (pgs_cons (pg_name (i := 3) sclast_places.nd rfl (Or.inl rfl)) pgs_nil))))) (fun _ _ _ _ _ => (pts_one (pt_val (pv 3)))) (fun _ _ _ _ _ => (pv 1))))), ?_⟩
  refine ⟨_, rfl, p, es, us, rfl, hB, hl6, hc, fun ml H1 its hml s1 h1 k1 => ?_⟩
  have hlen := k1.len
  have hal := allMk_len hc
  refine ⟨ml, rfl, ⟨_, SqL.of h1⟩, fun D hD => lc_list (K := K) (a := ml) (xs := its) (fun j H' => Same H1 H' ∧ ∃ acc, H' D = some (.lst acc) ∧ All2 (PlS H') ((((allMk es).take j).filter (·.2.2.2)).map fun m => (m.1, m.2.1)) acc) ⟨same_new hD _, [], upd_same, trivial⟩ ?_ ?_ ?_⟩
  · rintro j H' _ ⟨sB, _⟩
    exact SqL.of (sB _ _ h1)
  · rintro j x H2 hx ⟨s2, acc, h2, k2⟩
    obtain ⟨m, hm, q0, r, rfl, g1, g2⟩ := k1.get hx
    obtain ⟨hj, hj2⟩ := List.getElem?_eq_some_iff.mp hm
    have hle := k2.len
    rw [List.length_map] at hle
    have hf := List.length_filter_le (·.2.2.2) ((allMk es).take j)
    rw [List.length_take] at hf
    refine ⟨q0, _, rfl, SqT.of (s2 _ _ g1), rfl, _, _, rfl, _, _, rfl, _, _, rfl, rfl, rfl, ?_⟩
    refine ⟨_, rfl, _, rfl, ?_⟩
    rw [List.take_succ_eq_append_getElem hj, hj2, List.filter_append]
    cases hb : m.2.2.2 with
    | true =>
      refine iteT ⟨_, rfl, acc, h2, Nat.lt_of_le_of_lt (m := 100000) (by omega) (by decide), same_mut s2 hD, _, upd_same, ?_⟩
      have tk := tk_put (o := .lst (acc ++ [.ref r])) h2
      rw [List.filter_cons_of_pos (by exact hb), List.map_append]
      exact (k2.imp fun _ _ z => z.tk tk).app ⟨⟨r, rfl, tk _ _ (s2 _ _ g2)⟩, trivial⟩
    | false =>
      refine iteF ⟨s2, acc, h2, ?_⟩
      rw [List.filter_cons_of_neg (by rw [hb]; exact Bool.false_ne_true), List.filter_nil, List.append_nil]
      exact k2
  · rintro H2 ⟨s2, acc, h2, k2⟩
    rw [hlen, List.take_length, last_all] at k2
    refine q D _ acc ?_ (s1.trans s2) h2 k2
    exact s1.free hD

/-! ### led_places -/
def spLedP : Sp := fun vs H Q _ => ∃ (p : Addr) (es : List Er) (us : List V), vs = [.ref p] ∧ BkAt H es us p ∧ es.length ≤ 6 ∧ (∀ e ∈ es, cnt e.2.2 ≤ 1000) ∧
  ∀ p' H' its, H p' = none → Same H H' → H' p' = some (.lst its) → All2 (PlS H') (ledPl es) its → Q (.ref p') H'
abbrev sled_places : Stmt := top 13
theorem scled_places : FnScope ["book", "place", "is_led", "is_last"] ["book"] (defScope sled_places) := ⟨rfl, rfl, rfl, by decide +kernel, rfl, by decide +kernel, by decide +kernel⟩
theorem ok_LedP {f g : Addr} {fd gd : FuncData} (F : Fun K "led_places" "led_places" sled_places f fd) (Gmarked_places : FnOk P w K mg base CX0 2 g gd ["book"] spMkd) (Rmarked_places : Ref K mg "marked_places" g gd ["book"]) : FnOk P w K mg base CX0 3 f fd ["book"] spLedP := by
  refine F.ok scled_places (fun vs H Q E h => ?_) (fun cdv A outer s H vs Q E hr h => ?_)
  · obtain ⟨p, es, us, rfl, _⟩ := h
    rfl
  obtain ⟨p, es, us, rfl, hB, hl6, hc, q⟩ := h
  refine ⟨_, (pss_one (ps_ret (pe_lc (own := [("place", 1), ("is_led", 2), ("is_last", 3)]) (g := gTup K 3 (gCons (gName 1) (gCons (gName 2) (gCons (gName 3) gNil)))) (by rfl) scled_places.nd (pi_list (pe_call Gmarked_places (hr.mono (by omega)) rfl Rmarked_places.m Rmarked_places.k Rmarked_places.b .nil pass0 (pa_cons (pv 0) pa_nil))) (blkOk_by (own := [("place", 1), ("is_led", 2), ("is_last", 3)]) (N := ["book", "place", "is_led", "is_last"]) (sc := defScope sled_places) (by decide +kernel)) (fun _ _ _ _ _ => (pg_tup rfl (pgs_cons (pg_name (i := 1) scled_places.nd rfl (Or.inl rfl)) (pgs_cons (pg_name (i := 2) scled_places.nd rfl (Or.inl rfl)) (pgs_cons (pg_name (i := 3) scled_places.nd rfl (Or.inl rfl)) pgs_nil))))) (fun _ _ _ _ _ => (pts_one (pt_val (pv 2)))) (fun _ _ _ _ _ => (pv 1))))), ?_⟩
  refine ⟨_, rfl, p, es, us, rfl, hB, hl6, hc, fun ml H1 its hml s1 h1 k1 => ?_⟩
  have hlen := k1.len
  have hal := allMk_len hc
  refine ⟨ml, rfl, ⟨_, SqL.of h1⟩, fun D hD => lc_list (K := K) (a := ml) (xs := its) (fun j H' => Same H1 H' ∧ ∃ acc, H' D = some (.lst acc) ∧ All2 (PlS H') ((((allMk es).take j).filter (·.2.2.1)).map fun m => (m.1, m.2.1)) acc) ⟨same_new hD _, [], upd_same, trivial⟩ ?_ ?_ ?_⟩
  · rintro j H' _ ⟨sB, _⟩
    exact SqL.of (sB _ _ h1)
  · rintro j x H2 hx ⟨s2, acc, h2, k2⟩
    obtain ⟨m, hm, q0, r, rfl, g1, g2⟩ := k1.get hx
    obtain ⟨hj, hj2⟩ := List.getElem?_eq_some_iff.mp hm
    have hle := k2.len
    rw [List.length_map] at hle
    have hf := List.length_filter_le (·.2.2.1) ((allMk es).take j)
    rw [List.length_take] at hf
    refine ⟨q0, _, rfl, SqT.of (s2 _ _ g1), rfl, _, _, rfl, _, _, rfl, _, _, rfl, rfl, rfl, ?_⟩
    refine ⟨_, rfl, _, rfl, ?_⟩
    rw [List.take_succ_eq_append_getElem hj, hj2, List.filter_append]
    cases hb : m.2.2.1 with
    | true =>
      refine iteT ⟨_, rfl, acc, h2, Nat.lt_of_le_of_lt (m := 100000) (by omega) (by decide), same_mut s2 hD, _, upd_same, ?_⟩
      have tk := tk_put (o := .lst (acc ++ [.ref r])) h2
      rw [List.filter_cons_of_pos (by exact hb), List.map_append]
      exact (k2.imp fun _ _ z => z.tk tk).app ⟨⟨r, rfl, tk _ _ (s2 _ _ g2)⟩, trivial⟩
    | false =>
      refine iteF ⟨s2, acc, h2, ?_⟩
      rw [List.filter_cons_of_neg (by rw [hb]; exact Bool.false_ne_true), List.filter_nil, List.append_nil]
      exact k2
  · rintro H2 ⟨s2, acc, h2, k2⟩
    rw [hlen, List.take_length, led_all] at k2
    refine q D _ acc ?_ (s1.trans s2) h2 k2
    exact s1.free hD
end
end KB

namespace KB
open PySem L2 HT
theorem two_of {xs : List V} (h : xs.length = 2) : ∃ u v, xs = [u, v] := by
  match xs, h with
  | [u, v], _ => exact ⟨u, v, rfl⟩
theorem three_of {xs : List V} (h : xs.length = 3) : ∃ u v w, xs = [u, v, w] := by
  match xs, h with
  | [u, v, w], _ => exact ⟨u, v, w, rfl⟩
section
variable {P : Program} {w : World} {K : PySem.W.Frag} {mg : Str → Option Value} {base : Heap}
/-! ### _law_ends -/
def spEnds (n : Nat) : Sp := fun vs H Q _ => ∃ (a pl : Addr) (t : Tm) (pre : List V), vs = [.ref a, .ref pl] ∧ At H t a ∧ H pl = some (.tup pre) ∧ cnt t ≤ n ∧ pre.length + cnt t ≤ 2000 ∧
  ∀ p' H' its, H p' = none → Same H H' → H' p' = some (.lst its) → All2 (PlP H' pre) (ends t) its → Q (.ref p') H'
abbrev s_law_ends : Stmt := top 44
theorem scLends : FnScope ["term", "place", "found"] ["term", "place"] (defScope s_law_ends) := ⟨rfl, rfl, rfl, by decide +kernel, rfl, by decide +kernel, by decide +kernel⟩
theorem ok_ends (T : Txt K mg) {n : Nat} {f : Addr} {fd : FuncData} (F : Fun K "_law_ends" "_law_ends" s_law_ends f fd) (G_law_ends : FnOk P w K mg base CX0 (n + 1) f fd ["term", "place"] (spEnds n)) (R_law_ends : Ref K mg "_law_ends" f fd ["term", "place"]) : FnOk P w K mg base CX0 (n + 2) f fd ["term", "place"] (spEnds (n + 1)) := by
  refine F.ok scLends (fun vs H Q E h => ?_) (fun cdv A outer s H vs Q E hr h => ?_)
  · obtain ⟨a, pl, t, pre, rfl, _⟩ := h
    rfl
  obtain ⟨a, pl, t, pre, rfl, hA, hp, hc, hl, q⟩ := h
  refine ⟨_, (pss_cons (ps_set (i := 2) scLends.nd rfl (Or.inl rfl) (pe_lst (pa_cons (pv 1) pa_nil)))
    (pss_cons (ps_if (pt_cmpR op_eq (pe_ix ix_tup (pv 0) pe_int (fun _ _ => rfl)) pe_str (nomark _)) (pss_one (ps_ret (pe_op op_cat (pv 2) (pe_call G_law_ends (hr.mono (by omega)) rfl R_law_ends.m R_law_ends.k R_law_ends.b .nil pass0 (pa_cons (pe_ix ix_tup (pv 0) pe_int (fun _ _ => rfl)) (pa_cons (pe_op op_catA (pv 1) (pe_tup (pa_cons pe_int pa_nil))) pa_nil)))))) pss_nil)
    (pss_cons (ps_if (pt_cmpR op_eq (pe_ix ix_tup (pv 0) pe_int (fun _ _ => rfl)) pe_str (nomark _)) (pss_cons (ps_set (i := 2) scLends.nd rfl (Or.inl rfl) (pe_op op_cat (pv 2) (pe_call G_law_ends (hr.mono (by omega)) rfl R_law_ends.m R_law_ends.k R_law_ends.b .nil pass0 (pa_cons (pe_ix ix_tup (pv 0) pe_int (fun _ _ => rfl)) (pa_cons (pe_op op_catA (pv 1) (pe_tup (pa_cons pe_int pa_nil))) pa_nil)))))
    (pss_one (ps_ret (pe_op op_cat (pv 2) (pe_call G_law_ends (hr.mono (by omega)) rfl R_law_ends.m R_law_ends.k R_law_ends.b .nil pass0 (pa_cons (pe_ix ix_tup (pv 0) pe_int (fun _ _ => rfl)) (pa_cons (pe_op op_catA (pv 1) (pe_tup (pa_cons pe_int pa_nil))) pa_nil))))))) pss_nil)
    (pss_one (ps_ret (pv 2)))))), ?_⟩
  obtain ⟨xs, lay, hxl, hkid⟩ := hA.parts
  have har := ar_len hA.ar
  have hck := cnt_kids t
  refine ⟨_, rfl, sz (by show 1 ≤ 100000; decide), fun fl hfl => ?_⟩
  have s0 := same_new hfl (.lst [.ref pl])
  have f0 : upd H fl (.lst [.ref pl]) fl = some (.lst [.ref pl]) := upd_same
  have k0 : All2 (PlP (upd H fl (.lst [.ref pl])) pre) [[]] [.ref pl] := ⟨⟨pl, rfl, by rw [List.map_nil, List.append_nil]; exact s0 _ _ hp⟩, trivial⟩
  have lay0 := lay.mono s0
  have hp0 := s0 _ _ hp
  have hkid0 : ∀ i, i < xs.length → ∃ b, xs[i]? = some (.ref b) ∧ At (upd H fl (.lst [.ref pl])) (kid t i) b := fun i hi => let ⟨b, h1, h2⟩ := hkid i hi; ⟨b, h1, h2.mono s0⟩
  have ckid : ∀ i, i < (kidsT t).length → cnt (kid t i) + 1 ≤ cnt t := fun i hi => by
    have := cnt_mem (mem_of_get (kid_eq hi))
    omega
  revert s0 f0 k0 lay0 hp0 hkid0
  generalize upd H fl (.lst [.ref pl]) = H0
  intro s0 f0 k0 lay0 hp0 hkid0
  obtain ⟨r0, hd0⟩ := lay0.head
  cases hh : hdT t with
  | lett x =>
    rw [hh] at lay0 har hd0
    have h2 : (kidsT t).length = 2 := har
    obtain ⟨u, v, rfl⟩ := two_of lay0.1
    obtain ⟨b, hb, hb2⟩ := hkid0 1 (by rw [hxl, h2]; decide)
    have ev : v = .ref b := by simpa using hb
    subst ev
    have hla := lay0.2
    have hck1 := ckid 1 (by rw [h2]; decide)
    refine ⟨_, rfl, a, _, _, _, rfl, rfl, SqT.of hla, at0, rfl, _, rfl, itT rfl ?_⟩
    refine ⟨_, rfl, _, rfl, a, _, _, _, rfl, rfl, SqT.of hla, at3, _, rfl, sz (by show 1 ≤ 100000; decide), fun p2 hp2 => ?_⟩
    have t2 := same_new hp2 (.tup [.int 1])
    refine catA_of (t2 _ _ hp0) upd_same (by show pre.length + 1 ≤ 100000; omega) fun p3 H3 t3 h3 => ?_
    have t23 := t2.trans t3
    refine ⟨b, p3, kid t 1, _, rfl, hb2.mono t23, h3, by omega, by rw [List.length_append, List.length_singleton]; omega, fun p4 H4 its4 hp4 t4 h4 k4 => ?_⟩
    have tA := t23.trans t4
    have l4 := k4.len
    have el := ends_len (kid t 1)
    refine ⟨fl, p4, _, _, rfl, rfl, tA _ _ f0, h4, sz (by show 1 + its4.length ≤ 100000; omega), fun p5 hp5 => ?_⟩
    have t5 := same_new hp5 (.lst ([.ref pl] ++ its4))
    refine q p5 _ ([.ref pl] ++ its4) ((s0.trans tA).free hp5) (s0.trans (tA.trans t5)) upd_same ?_
    rw [ends_let hh h2]
    exact (k0.imp fun _ _ z => z.tk (tk_same (tA.trans t5))).app (All2.map (R := PlP _ pre) (k4.imp fun ks v z => (z.tk (tk_same t5)).deep))
  | iff =>
    rw [hh] at lay0 har hd0
    have h3 : (kidsT t).length = 3 := har
    obtain ⟨u, v, v2, rfl⟩ := three_of lay0.1
    obtain ⟨b, hb, hb2⟩ := hkid0 1 (by rw [hxl, h3]; decide)
    obtain ⟨b', hb', hb2'⟩ := hkid0 2 (by rw [hxl, h3]; decide)
    have ev : v = .ref b := by simpa using hb
    have ev' : v2 = .ref b' := by simpa using hb'
    subst ev ev'
    have hla := lay0.2
    have hck1 := ckid 1 (by rw [h3]; decide)
    have hck2 := ckid 2 (by rw [h3]; decide)
    refine ⟨_, rfl, a, _, _, _, rfl, rfl, SqT.of hla, at0, rfl, _, rfl, itF rfl ?_⟩
    refine ⟨_, rfl, a, _, _, _, rfl, rfl, SqT.of hla, at0, rfl, _, rfl, itT rfl ?_⟩
    refine ⟨_, rfl, _, rfl, a, _, _, _, rfl, rfl, SqT.of hla, at2, _, rfl, sz (by show 1 ≤ 100000; decide), fun p2 hp2 => ?_⟩
    have t2 := same_new hp2 (.tup [.int 1])
    refine catA_of (t2 _ _ hp0) upd_same (by show pre.length + 1 ≤ 100000; omega) fun p3 H3 t3 h3' => ?_
    have t23 := t2.trans t3
    refine ⟨b, p3, kid t 1, _, rfl, hb2.mono t23, h3', by omega, by rw [List.length_append, List.length_singleton]; omega, fun p4 H4 its4 hp4 t4 h4 k4 => ?_⟩
    have tA := t23.trans t4
    have l4 := k4.len
    have el := ends_len (kid t 1)
    refine ⟨fl, p4, _, _, rfl, rfl, tA _ _ f0, h4, sz (by show 1 + its4.length ≤ 100000; omega), fun p5 hp5 => ?_⟩
    have t5 := same_new hp5 (.lst ([.ref pl] ++ its4))
    have tB := tA.trans t5
    have n5 := (s0.trans tA).free hp5
    have f5 : upd H4 p5 (.lst ([.ref pl] ++ its4)) p5 = some (.lst ([.ref pl] ++ its4)) := upd_same
    have k5 : All2 (PlP (upd H4 p5 (.lst ([.ref pl] ++ its4))) pre) ([[]] ++ (ends (kid t 1)).map ((1 : Int) :: ·)) ([.ref pl] ++ its4) := (k0.imp fun _ _ z => z.tk (tk_same tB)).app (All2.map (R := PlP _ pre) (k4.imp fun ks v z => (z.tk (tk_same t5)).deep))
    revert tB f5 k5
    generalize upd H4 p5 (.lst ([.ref pl] ++ its4)) = H5
    intro tB f5 k5
    refine ⟨_, rfl, _, rfl, a, _, _, _, rfl, rfl, SqT.of (tB _ _ hla), at3, _, rfl, sz (by show 1 ≤ 100000; decide), fun p6 hp6 => ?_⟩
    have t6 := same_new hp6 (.tup [.int 2])
    refine catA_of (t6 _ _ (tB _ _ hp0)) upd_same (by show pre.length + 1 ≤ 100000; omega) fun p7 H7 t7 h7 => ?_
    have t67 := t6.trans t7
    refine ⟨b', p7, kid t 2, _, rfl, hb2'.mono (tB.trans t67), h7, by omega, by rw [List.length_append, List.length_singleton]; omega, fun p8 H8 its8 hp8 t8 h8 k8 => ?_⟩
    have tC := t67.trans t8
    have l8 := k8.len
    have el2 := ends_len (kid t 2)
    refine ⟨p5, p8, _, _, rfl, rfl, tC _ _ f5, h8, sz (by rw [List.length_append, List.length_singleton]; omega), fun p9 hp9 => ?_⟩
    have t9 := same_new hp9 (.lst (([.ref pl] ++ its4) ++ its8))
    refine q p9 _ (([.ref pl] ++ its4) ++ its8) ((s0.trans (tB.trans tC)).free hp9) (s0.trans (tB.trans (tC.trans t9))) upd_same ?_
    rw [ends_if hh h3]
    exact (k5.imp fun _ _ z => z.tk (tk_same (tC.trans t9))).app (All2.map (R := PlP _ pre) (k8.imp fun ks v z => (z.tk (tk_same t9)).deep))
  | num z =>
    rw [hh] at hd0
    exact ⟨_, rfl, a, _, _, _, rfl, rfl, SqT.of hd0, at0, rfl, _, rfl, itF rfl ⟨_, rfl, a, _, _, _, rfl, rfl, SqT.of hd0, at0, rfl, _, rfl, itF rfl ⟨_, rfl, q fl _ _ hfl s0 f0 (by rw [ends_flat (by rw [hh]; rfl)]; exact k0)⟩⟩⟩
  | nam z =>
    rw [hh] at hd0
    exact ⟨_, rfl, a, _, _, _, rfl, rfl, SqT.of hd0, at0, rfl, _, rfl, itF rfl ⟨_, rfl, a, _, _, _, rfl, rfl, SqT.of hd0, at0, rfl, _, rfl, itF rfl ⟨_, rfl, q fl _ _ hfl s0 f0 (by rw [ends_flat (by rw [hh]; rfl)]; exact k0)⟩⟩⟩
  | ask z =>
    rw [hh] at hd0
    exact ⟨_, rfl, a, _, _, _, rfl, rfl, SqT.of hd0, at0, rfl, _, rfl, itF rfl ⟨_, rfl, a, _, _, _, rfl, rfl, SqT.of hd0, at0, rfl, _, rfl, itF rfl ⟨_, rfl, q fl _ _ hfl s0 f0 (by rw [ends_flat (by rw [hh]; rfl)]; exact k0)⟩⟩⟩
  | plus =>
    rw [hh] at hd0
    exact ⟨_, rfl, a, _, _, _, rfl, rfl, SqT.of hd0, at0, rfl, _, rfl, itF rfl ⟨_, rfl, a, _, _, _, rfl, rfl, SqT.of hd0, at0, rfl, _, rfl, itF rfl ⟨_, rfl, q fl _ _ hfl s0 f0 (by rw [ends_flat (by rw [hh]; rfl)]; exact k0)⟩⟩⟩
  | less =>
    rw [hh] at hd0
    exact ⟨_, rfl, a, _, _, _, rfl, rfl, SqT.of hd0, at0, rfl, _, rfl, itF rfl ⟨_, rfl, a, _, _, _, rfl, rfl, SqT.of hd0, at0, rfl, _, rfl, itF rfl ⟨_, rfl, q fl _ _ hfl s0 f0 (by rw [ends_flat (by rw [hh]; rfl)]; exact k0)⟩⟩⟩
  | tell =>
    rw [hh] at hd0
    exact ⟨_, rfl, a, _, _, _, rfl, rfl, SqT.of hd0, at0, rfl, _, rfl, itF rfl ⟨_, rfl, a, _, _, _, rfl, rfl, SqT.of hd0, at0, rfl, _, rfl, itF rfl ⟨_, rfl, q fl _ _ hfl s0 f0 (by rw [ends_flat (by rw [hh]; rfl)]; exact k0)⟩⟩⟩
theorem no_ends {f : Addr} {fd : FuncData} : FnOk P w K mg base CX0 1 f fd ["term", "place"] (spEnds 0) := by
  have no : ∀ vs H Q E, ¬ spEnds 0 vs H Q E := fun vs H Q E h => by
    obtain ⟨a, pl, t, pre, _, _, _, h0, _⟩ := h
    have := cnt_pos t
    omega
  exact ⟨fun vs H Q E h => absurd h (no vs H Q E), fun A outer s H args us vs Q E _ _ _ _ h => absurd h (no vs H Q E)⟩
theorem all_ends (T : Txt K mg) {f : Addr} {fd : FuncData} (F : Fun K "_law_ends" "_law_ends" s_law_ends f fd) (R_law_ends : Ref K mg "_law_ends" f fd ["term", "place"]) : ∀ n : Nat, FnOk P w K mg base CX0 (n + 1) f fd ["term", "place"] (spEnds n)
  | 0 => no_ends
  | n + 1 => ok_ends T F (all_ends T F R_law_ends n) R_law_ends
end
end KB

namespace KB
open PySem L2 HT
section
variable {P : Program} {w : World} {K : PySem.W.Frag} {mg : Str → Option Value} {base : Heap}
theorem pmk_let (x : Str) (i : Nat) (ld : Bool) (hi : i < 2) : (pmk (.lett x) i ld false).1 = (decide ((i : Int) = 1) && ld) := by
  unfold pmk
  by_cases c : 0 < i
  · have : i = 1 := by omega
    subst this
    rw [if_pos c]
    rfl
  · have : i = 0 := by omega
    subst this
    rfl
theorem pmk_if (i : Nat) (ld : Bool) : (pmk .iff i ld false).1 = decide ((i : Int) > 0) := by
  unfold pmk
  by_cases c : 0 < i
  · rw [if_pos c, decide_eq_true (by omega)]
  · rw [if_neg c, decide_eq_false (by omega)]
theorem pmk_other {h : Hd} (hl : lazyH h = false) (i : Nat) (ld : Bool) : (pmk h i ld false).1 = false := by
  unfold pmk
  by_cases c : 0 < i
  · rw [if_pos c]
    cases h <;> first | rfl | cases hl
  · rw [if_neg c]
theorem marksL_len (h : Hd) (ld ls : Bool) : ∀ (ts : List Tm) (j : Nat), (marksL h ld ls j ts).length = cnts ts
  | [], _ => rfl
  | t :: ts, j => by
    show ((marks t _ _).map _ ++ marksL h ld ls (j + 1) ts).length = _
    rw [List.length_append, List.length_map, marks_len, marksL_len h ld ls ts (j + 1), cnts_cons]
theorem cnts_takeX : ∀ (ts : List Tm) (i : Nat), cnts (ts.take i) ≤ cnts ts
  | _, 0 => by
    rw [List.take_zero]
    exact Nat.zero_le _
  | [], _ + 1 => Nat.le_refl _
  | t :: ts, i + 1 => by
    rw [List.take_succ_cons, cnts_cons, cnts_cons]
    have := cnts_takeX ts i
    omega
/-! ### _law_led -/
def spLLed (n : Nat) : Sp := fun vs H Q _ => ∃ (a pl : Addr) (t : Tm) (pre : List V) (ld : Bool), vs = [.ref a, .ref pl, .bl ld] ∧ At H t a ∧ H pl = some (.tup pre) ∧ cnt t ≤ n ∧ pre.length + cnt t ≤ 2000 ∧
  ∀ p' H' its, H p' = none → Same H H' → H' p' = some (.lst its) → All2 (PlP H' pre) (ledsOf (marks t ld false)) its → Q (.ref p') H'
abbrev s_law_led : Stmt := top 45
theorem scLled : FnScope ["term", "place", "led", "found", "k", "part", "here"] ["term", "place", "led"] (defScope s_law_led) := ⟨rfl, rfl, rfl, by decide +kernel, rfl, by decide +kernel, by decide +kernel⟩
theorem ok_led (T : Txt K mg) {n : Nat} {f g : Addr} {fd gd : FuncData} (F : Fun K "_law_led" "_law_led" s_law_led f fd) (G_law_led : FnOk P w K mg base CX0 (n + 1) f fd ["term", "place", "led"] (spLLed n)) (R_law_led : Ref K mg "_law_led" f fd ["term", "place", "led"])
    (G_law_parts : FnOk P w K mg base CX0 1 g gd ["term"] spParts) (R_law_parts : Ref K mg "_law_parts" g gd ["term"]) : FnOk P w K mg base CX0 (n + 2) f fd ["term", "place", "led"] (spLLed (n + 1)) := by
  refine F.ok scLled (fun vs H Q E h => ?_) (fun cdv A outer s H vs Q E hr h => ?_)
  · obtain ⟨a, pl, t, pre, ld, rfl, _⟩ := h
    rfl
  obtain ⟨a, pl, t, pre, ld, rfl, hA, hp, hc, hl, q⟩ := h
  refine ⟨_, (Evl.pss_cut (ps_set (i := 3) scLled.nd rfl (Or.inl rfl) (pe_ifExp (pt_val (pv 2)) (pe_lst (pa_cons (pv 1) pa_nil)) (pe_lst pa_nil)))
    (pss_cons (ps_for PassesOwn.never rfl (pi_enumT (by rfl) T.m_enumerate (pa_cons (pe_call G_law_parts (hr.mono (by omega)) rfl R_law_parts.m R_law_parts.k R_law_parts.b .nil pass0 (pa_cons (pv 0) pa_nil)) pa_nil)) (pg_tup rfl (pgs_cons (pg_name (i := 4) scLled.nd rfl (Or.inl rfl)) (pgs_cons (pg_name (i := 5) scLled.nd rfl (Or.inl rfl)) pgs_nil))) (Evl.pss_cut (ps_set (i := 6) scLled.nd rfl (Or.inl rfl) (pe_or (pe_and (pe_cmpR op_eq (pe_ix ix_tup (pv 0) pe_int (fun _ _ => rfl)) pe_str (nomark _)) (pe_one (pe_cmpR op_gt (pv 4) pe_int (nomark _)))) (pe_one (pe_and (pe_cmpR op_eq (pe_ix ix_tup (pv 0) pe_int (fun _ _ => rfl)) pe_str (nomark _)) (pe_and (pe_cmpR op_eq (pv 4) pe_int (nomark _)) (pe_one (pv 2)))))))
    (pss_one (ps_expr (pe_bm PySem.F.plainAttrs_list PySem.F.slot_list_extend PySem.F.type_list_extend mt_extend (pv 3) (pa_cons (pe_call G_law_led (hr.mono (by omega)) rfl R_law_led.m R_law_led.k R_law_led.b .nil pass0 (pa_cons (pv 5) (pa_cons (pe_op op_catA (pv 1) (pe_tup (pa_cons (pv 4) pa_nil))) (pa_cons (pv 6) pa_nil)))) pa_nil))))))
    (pss_one (ps_ret (pv 3))))), ?_⟩
  have har := hA.ar
  obtain ⟨h, m, k⟩ := t
  obtain ⟨ys, l, hk⟩ := hA
  have harh : arH h m := har.1
  rw [cnt_mk] at hc hl
  have kk : Stk H (Rfs ys) (List.ofFn k) := Stk.fn hk
  have hml : (List.ofFn k).length = m := List.length_ofFn
  -- found
  refine ⟨fun σ' H' => ∃ fl v0, σ' = [some (.ref a), some (.ref pl), some (.bl ld), some (.ref fl), none, none, none] ∧ Same H H' ∧ H fl = none ∧ H' fl = some (.lst v0) ∧ All2 (PlP H' pre) (if ld = true then [[]] else []) v0, ?_, ?_⟩
  · cases ld with
    | true =>
      refine ⟨_, rfl, _, rfl, itT rfl ⟨_, rfl, sz (by show 1 ≤ 100000; decide), fun fl hfl => ?_⟩⟩
      have s0 := same_new hfl (.lst [.ref pl])
      exact ⟨fl, _, rfl, s0, hfl, upd_same, ⟨pl, rfl, by rw [List.map_nil, List.append_nil]; exact s0 _ _ hp⟩, trivial⟩
    | false =>
      refine ⟨_, rfl, _, rfl, itF rfl ⟨sz (by show 0 ≤ 100000; decide), fun fl hfl => ?_⟩⟩
      exact ⟨fl, _, rfl, same_new hfl _, hfl, upd_same, trivial⟩
  rintro σ0 H0 ⟨fl, v0, rfl, s0, hfl, f0, k0⟩
  refine ⟨_, rfl, a, h, _, rfl, l.mono s0, fun pp H1 s1 h1 => ?_⟩
  have s01 := s0.trans s1
  have l0 : v0.length ≤ 1 := by
    rw [k0.len]
    cases ld <;> decide
  refine ⟨pp, _, rfl, SqT.of h1, for_enT (xs := Rfs ys) (fun i σ H' => ∃ o4 o5 o6 its, σ = [some (.ref a), some (.ref pl), some (.bl ld), some (.ref fl), o4, o5, o6] ∧ Same H H' ∧ H' pp = some (.tup (Rfs ys)) ∧ H' fl = some (.lst its) ∧ All2 (PlP H' pre) ((if ld = true then [[]] else []) ++ ledsOf (marksL h ld false 0 ((List.ofFn k).take i))) its) ?_ ?_ ?_ ?_⟩
  · refine ⟨_, _, _, _, rfl, s01, h1, s1 _ _ f0, ?_⟩
    rw [List.take_zero]
    show All2 _ (_ ++ []) _
    rw [List.append_nil]
    exact k0.imp fun _ _ z => z.tk (tk_same s1)
  · rintro i σ H' _ ⟨o4, o5, o6, its, rfl, s2, g1, _⟩
    exact SqT.of g1
  · rintro i x T' σ H2 hx hT ⟨o4, o5, o6, its, rfl, s2, g1, g2, g3⟩
    obtain ⟨ti, hti, b, rfl, hb⟩ := kk.get hx
    have hil : i < m := by
      rw [← hml]
      exact (List.getElem?_eq_some_iff.mp hti).1
    have hmem := mem_of_get hti
    have hct := cnt_mem hmem
    have s3 := same_new hT (.tup [.int (i : Nat), .ref b])
    refine ⟨T', _, rfl, SqT.of upd_same, rfl, _, _, rfl, _, _, rfl, rfl, ?_⟩
    have s23 := s2.trans s3
    obtain ⟨r0, hd0⟩ := (l.mono s23).head
    have f3 := s3 _ _ g2
    have p3' := s3 _ _ g1
    have k3 := g3.imp fun _ _ z => PlP.tk (tk_same s3) z
    revert s23 hd0 f3 p3' k3
    generalize upd H2 T' (.tup [.int (i : Nat), .ref b]) = H3
    intro s23 hd0 f3 p3' k3
    -- here
    refine ⟨fun σ' H' => ∃ gb : Bool, σ' = [some (.ref a), some (.ref pl), some (.bl ld), some (.ref fl), some (.int (i : Nat)), some (.ref b), some (.bl gb)] ∧ gb = (pmk h i ld false).1 ∧ H3 = H', ?_, ?_⟩
    · cases h with
      | iff =>
        rw [pmk_if]
        refine ⟨_, rfl, a, _, _, _, rfl, rfl, SqT.of hd0, at0, rfl, _, rfl, itT rfl ⟨_, rfl, _, _, rfl, rfl, _, rfl, ?_⟩⟩
        by_cases c : (i : Int) > 0
        · exact itT (decide_eq_true c) ⟨_, rfl, (decide_eq_true c).symm, rfl⟩
        · refine itF (decide_eq_false c) ⟨_, rfl, a, _, _, _, rfl, rfl, SqT.of hd0, at0, rfl, _, rfl, itF rfl ?_⟩
          exact ⟨_, rfl, (decide_eq_false c).symm, rfl⟩
      | lett x =>
        have hi2 : i < 2 := by
          have : m = 2 := harh
          omega
        rw [pmk_let x i ld hi2]
        refine ⟨_, rfl, a, _, _, _, rfl, rfl, SqT.of hd0, at0, rfl, _, rfl, itF rfl ⟨_, rfl, itF rfl ⟨_, rfl, a, _, _, _, rfl, rfl, SqT.of hd0, at0, rfl, _, rfl, itT rfl ⟨_, rfl, rfl, _, rfl, ?_⟩⟩⟩⟩
        by_cases c1 : (i : Int) = 1
        · exact itT (decide_eq_true (congrArg V.int c1)) ⟨_, rfl, _, rfl, by rw [decide_eq_true c1]; rfl, rfl⟩
        · exact itF (decide_eq_false fun z => c1 (V.int.inj z)) ⟨_, rfl, by rw [decide_eq_false c1]; rfl, rfl⟩
      | num z =>
        rw [pmk_other (by rfl)]
        exact ⟨_, rfl, a, _, _, _, rfl, rfl, SqT.of hd0, at0, rfl, _, rfl, itF rfl ⟨_, rfl, itF rfl ⟨_, rfl, a, _, _, _, rfl, rfl, SqT.of hd0, at0, rfl, _, rfl, itF rfl ⟨_, rfl, rfl, rfl⟩⟩⟩⟩
      | nam z =>
        rw [pmk_other (by rfl)]
        exact ⟨_, rfl, a, _, _, _, rfl, rfl, SqT.of hd0, at0, rfl, _, rfl, itF rfl ⟨_, rfl, itF rfl ⟨_, rfl, a, _, _, _, rfl, rfl, SqT.of hd0, at0, rfl, _, rfl, itF rfl ⟨_, rfl, rfl, rfl⟩⟩⟩⟩
      | ask z =>
        rw [pmk_other (by rfl)]
        exact ⟨_, rfl, a, _, _, _, rfl, rfl, SqT.of hd0, at0, rfl, _, rfl, itF rfl ⟨_, rfl, itF rfl ⟨_, rfl, a, _, _, _, rfl, rfl, SqT.of hd0, at0, rfl, _, rfl, itF rfl ⟨_, rfl, rfl, rfl⟩⟩⟩⟩
      | plus =>
        rw [pmk_other (by rfl)]
        exact ⟨_, rfl, a, _, _, _, rfl, rfl, SqT.of hd0, at0, rfl, _, rfl, itF rfl ⟨_, rfl, itF rfl ⟨_, rfl, a, _, _, _, rfl, rfl, SqT.of hd0, at0, rfl, _, rfl, itF rfl ⟨_, rfl, rfl, rfl⟩⟩⟩⟩
      | less =>
        rw [pmk_other (by rfl)]
        exact ⟨_, rfl, a, _, _, _, rfl, rfl, SqT.of hd0, at0, rfl, _, rfl, itF rfl ⟨_, rfl, itF rfl ⟨_, rfl, a, _, _, _, rfl, rfl, SqT.of hd0, at0, rfl, _, rfl, itF rfl ⟨_, rfl, rfl, rfl⟩⟩⟩⟩
      | tell =>
        rw [pmk_other (by rfl)]
        exact ⟨_, rfl, a, _, _, _, rfl, rfl, SqT.of hd0, at0, rfl, _, rfl, itF rfl ⟨_, rfl, itF rfl ⟨_, rfl, a, _, _, _, rfl, rfl, SqT.of hd0, at0, rfl, _, rfl, itF rfl ⟨_, rfl, rfl, rfl⟩⟩⟩⟩
    rintro σ4 H3' ⟨_, rfl, rfl, rfl⟩
    have hb3 := hb.mono s23
    refine ⟨_, rfl, .inl ⟨rfl, _, SqL.of f3⟩, _, rfl, _, rfl, _, rfl, sz (by show 1 ≤ 100000; decide), fun p2 hp2 => ?_⟩
    have s4 := same_new hp2 (.tup [.int (i : Nat)])
    refine catA_of (s4 _ _ (s23 _ _ hp)) upd_same (by show pre.length + 1 ≤ 100000; omega) fun p3 H5 s5 h3 => ?_
    have s45 := s4.trans s5
    refine ⟨_, rfl, b, p3, ti, _, _, rfl, hb3.mono s45, h3, by omega, by rw [List.length_append, List.length_singleton]; omega, fun p4 H6 its4 hp4 s6 h4 k4 => ?_⟩
    have s36 := s45.trans s6
    have f4 := s36 _ _ f3
    have l4 := k4.len
    have l3 := k3.len
    have hll := leds_len ti (pmk h i ld false).1 false
    have hlm : (ledsOf (marksL h ld false 0 ((List.ofFn k).take i))).length ≤ cnts (List.ofFn k) := by
      have e1 : (ledsOf (marksL h ld false 0 ((List.ofFn k).take i))).length ≤ (marksL h ld false 0 ((List.ofFn k).take i)).length := by
        unfold ledsOf
        rw [List.length_map]
        exact List.length_filter_le _ _
      rw [marksL_len] at e1
      have e2 := cnts_takeX (List.ofFn k) i
      omega
    have hl1 : ((if ld = true then [[]] else [] : List (List Int))).length ≤ 1 := by cases ld <;> decide
    rw [List.length_append] at l3
    refine ⟨fl, p4, _, _, rfl, rfl, f4, h4, sz (by omega), ?_⟩
    have tk := tk_put (o := .lst (its ++ its4)) f4
    refine ⟨_, _, _, _, rfl, same_mut (s23.trans s36) hfl, tk _ _ (s36 _ _ p3'), upd_same, ?_⟩
    rw [marksL_take hti, leds_app, ← List.append_assoc, leds_map, Nat.zero_add, leds_ls ti (pmk h i ld false).1 (pmk h i ld false).2 false]
    exact (k3.imp fun _ _ z => (PlP.tk (tk_same s36) z).tk tk).app (All2.map (R := PlP _ pre) (k4.imp fun ks v z => (z.tk tk).deep))
  · rintro σ H2 ⟨o4, o5, o6, its, rfl, s2, g1, g2, g3⟩
    refine ⟨_, rfl, q fl H2 its hfl s2 g2 ?_⟩
    have e : (Rfs ys).length = (List.ofFn k).length := kk.len
    rw [e, List.take_length] at g3
    rw [marks_mk]
    show All2 _ (ledsOf ([([], ld, false)] ++ _)) _
    rw [leds_app]
    have e2 : ledsOf [([], ld, false)] = (if ld = true then [[]] else []) := by cases ld <;> rfl
    rw [e2]
    exact g3
theorem no_led {f : Addr} {fd : FuncData} : FnOk P w K mg base CX0 1 f fd ["term", "place", "led"] (spLLed 0) := by
  have no : ∀ vs H Q E, ¬ spLLed 0 vs H Q E := fun vs H Q E h => by
    obtain ⟨a, pl, t, pre, ld, _, _, _, h0, _⟩ := h
    have := cnt_pos t
    omega
  exact ⟨fun vs H Q E h => absurd h (no vs H Q E), fun A outer s H args us vs Q E _ _ _ _ h => absurd h (no vs H Q E)⟩
theorem all_led (T : Txt K mg) {f g : Addr} {fd gd : FuncData} (F : Fun K "_law_led" "_law_led" s_law_led f fd) (R_law_led : Ref K mg "_law_led" f fd ["term", "place", "led"])
    (G_law_parts : FnOk P w K mg base CX0 1 g gd ["term"] spParts) (R_law_parts : Ref K mg "_law_parts" g gd ["term"]) : ∀ n : Nat, FnOk P w K mg base CX0 (n + 1) f fd ["term", "place", "led"] (spLLed n)
  | 0 => no_led
  | n + 1 => ok_led T F (all_led T F R_law_led G_law_parts R_law_parts n) R_law_led G_law_parts R_law_parts
end
end KB

namespace KB
open PySem L2 HT
structure DeepI (c : Cf) : Prop where
  ak : ∀ a ∈ c.asks, a.2 + 1 ≤ (c.asked : Int)
  dp : c.deepest + 1 ≤ max 1 (c.asked : Int)
theorem putA_mem {as : List (Env × Int)} {k : Nat} {x : Str} {z : Int} {a : Env × Int} (h : a ∈ putA as k x z) : ∃ b ∈ as, b.2 = a.2 := by
  obtain ⟨i, hi⟩ := List.mem_iff_getElem?.mp h
  unfold putA at hi
  rw [List.getElem?_modify] at hi
  cases e : as[i]? with
  | none =>
    rw [e] at hi
    cases hi
  | some b =>
    rw [e] at hi
    refine ⟨b, List.mem_of_getElem? e, ?_⟩
    have hi' : (if k = i then (fun y => if y = x then some z else b.1 y, b.2) else b) = a := Option.some.inj hi
    by_cases c : k = i
    · rw [if_pos c] at hi'
      rw [← hi']
    · rw [if_neg c] at hi'
      rw [hi']
theorem deep_ask {es : List Er} {c0 : Cf} {f : Str} {ns : List Int} {wt : Int} {e : Er} (hf : es.find? (fun e => decide (e.1 = f)) = some e) (I : DeepI c0) (hw : wt ≤ (c0.asked : Int)) : DeepI (askC es c0 f ns wt) := by
  have h2 := I.dp
  rcases ask_cases (c0 := c0) (ns := ns) (wt := wt) hf with ⟨ha, q⟩ | ⟨ha, q⟩
  · rw [q]
    exact ⟨I.ak, I.dp⟩
  · rw [q]
    refine ⟨fun a h => ?_, ?_⟩
    · show a.2 + 1 ≤ ((c0.asked + 1 : Nat) : Int)
      rcases List.mem_append.mp h with z | z
      · have := I.ak a z
        omega
      · rw [List.mem_singleton.mp z]
        show wt + 1 ≤ _
        omega
    · show max c0.deepest wt + 1 ≤ max 1 ((c0.asked + 1 : Nat) : Int)
      omega
theorem deep_step {es : List Er} {hd : Str → Option Nat} (E : EsOk es hd) {c : Cf} (w : WfC es hd c) (I : DeepI c) : DeepI (stepC es c) := by
  have mkI : ∀ X : Cf, X.asks = c.asks → X.asked = c.asked → X.deepest = c.deepest → DeepI X := fun X h1 h2 h3 => ⟨by rw [h1, h2]; exact I.ak, by rw [h2, h3]; exact I.dp⟩
  unfold stepC
  cases e : c.steps with
  | nil => exact mkI _ rfl rfl rfl
  | cons s r =>
    show DeepI (if s.begun = true then finC es { c with steps := r } s else beginC c s r)
    cases hb : s.begun with
    | false =>
      rw [if_neg Bool.false_ne_true]
      exact mkI _ rfl rfl rfl
    | true =>
      rw [if_pos rfl]
      unfold finC
      cases hh : hdT s.t with
      | num z => exact mkI _ rfl rfl rfl
      | nam x => exact mkI _ rfl rfl rfl
      | plus => exact mkI _ rfl rfl rfl
      | less => exact mkI _ rfl rfl rfl
      | tell => exact mkI _ rfl rfl rfl
      | iff => exact mkI _ rfl rfl rfl
      | lett x =>
        refine ⟨fun a h => ?_, I.dp⟩
        obtain ⟨b, h1, h2⟩ := putA_mem h
        have := I.ak b h1
        rw [h2] at this
        exact this
      | ask f =>
        have fr := w.fr s (by rw [e]; exact List.mem_cons_self)
        obtain ⟨xs, hsc, _⟩ := fr.sc
        have hfd : hd f = some (kidsT s.t).length := by
          cases ht : s.t with
          | mk h n k =>
            rw [ht] at hsc hh
            have hh : h = .ask f := hh
            subst hh
            rw [kids_len]
            exact hsc.1
        obtain ⟨er, h1, _⟩ := E.found hfd
        refine deep_ask h1 (mkI _ rfl rfl rfl) ?_
        have hwt : waitAt c s.k + 1 ≤ (c.asked : Int) := by
          have hk := List.getElem?_eq_getElem fr.k
          unfold waitAt
          rw [hk]
          exact I.ak _ (List.getElem_mem fr.k)
        show (if s.last = true then waitAt c s.k else waitAt c s.k + 1) ≤ (c.asked : Int)
        by_cases hl : s.last = true
        · rw [if_pos hl]
          omega
        · rw [if_neg hl]
          exact hwt
theorem deep_start {es : List Er} {hd : Str → Option Nat} (E : EsOk es hd) {f : Str} {ns : List Int} {m : Nat} (hf : hd f = some ns.length) : DeepI (askC es (cf0 m) f ns 0) := by
  obtain ⟨e, h1, _⟩ := E.found hf
  exact deep_ask h1 ⟨fun a h => (by cases h), by show (0 : Int) + 1 ≤ max 1 ((0 : Nat) : Int); decide⟩ (Int.le_refl _)
theorem deep_of {es : List Er} {hd : Str → Option Nat} (E : EsOk es hd) {m : Nat} {s c : Cf} (h : Rch es s c) (g : GoC es hd m s) (I : DeepI s) : DeepI c := by
  induction h with
  | refl => exact I
  | snoc h1 hn ih => exact deep_step E ((go_of E h1 g).wf.resolve_right fun z => z hn) ih
/-- fewer wait than asks were done -/
theorem deep_lt {es : List Er} {hd : Str → Option Nat} (E : EsOk es hd) {f : Str} {ns : List Int} {m : Nat} (hf : hd f = some ns.length) (hm : m ≤ 3000) {c : Cf} (h : Rch es (askC es (cf0 m) f ns 0) c) : c.deepest + 1 ≤ max 1 (nAsk c.trail : Int) := by
  have g := go_of E h (go_start E hf hm)
  have I := deep_of E h (go_start E hf hm) (deep_start E hf)
  rw [← g.ca]
  exact I.dp
end KB

namespace KB
open PySem L2 HT
theorem u65 {k : Nat} {A : Around} (r : Room k A) : A.units + 65 < cLine := by
  have := r.un
  omega
theorem passX {X : Cx} {P : Program} {w : World} : Passes (L2.CX P w) X E0 := fun _ _ _ _ _ _ _ h => by
  obtain ⟨_, _, _, _, _, _, _, _, _, _, _, _, z⟩ := h
  exact z.elim
theorem same_but {tp : Addr} {H H1 H2 : Hp} (h0 : H tp = none) (s : Same H H1) (b : But1 tp H1 H2) : Same H H2 := fun a o ha => b a o (ne_of_none ha h0) (s a o ha)
theorem lastPl_take {es : List Er} {i : Nat} {e : Er} (h : es[i]? = some e) : lastPl (es.take (i + 1)) = lastPl (es.take i) ++ (ends e.2.2).map fun ks => (e.1, ks) := by
  unfold lastPl
  obtain ⟨hi, he⟩ := List.getElem?_eq_some_iff.mp h
  rw [List.take_succ_eq_append_getElem hi, List.map_append, List.flatten_append, he]
  simp
theorem ledPl_take {es : List Er} {i : Nat} {e : Er} (h : es[i]? = some e) : ledPl (es.take (i + 1)) = ledPl (es.take i) ++ (ledsOf (marks e.2.2 true true)).map fun ks => (e.1, ks) := by
  unfold ledPl
  obtain ⟨hi, he⟩ := List.getElem?_eq_some_iff.mp h
  rw [List.take_succ_eq_append_getElem hi, List.map_append, List.flatten_append, he]
  simp
theorem lastPl_len {es : List Er} (hc : ∀ e ∈ es, cnt e.2.2 ≤ 1000) : (lastPl es).length ≤ 1000 * es.length := by
  induction es with
  | nil => exact Nat.zero_le _
  | cons e r ih =>
    have h1 := ih fun x hx => hc x (List.mem_cons_of_mem _ hx)
    have h2 := hc e List.mem_cons_self
    have h4 : lastPl (e :: r) = (ends e.2.2).map (fun ks => (e.1, ks)) ++ lastPl r := by
      unfold lastPl
      rw [List.map_cons, List.flatten_cons]
    have h5 := ends_len e.2.2
    rw [h4, List.length_append, List.length_map, List.length_cons]
    omega
theorem ledPl_len {es : List Er} (hc : ∀ e ∈ es, cnt e.2.2 ≤ 1000) : (ledPl es).length ≤ 1000 * es.length := by
  induction es with
  | nil => exact Nat.zero_le _
  | cons e r ih =>
    have h1 := ih fun x hx => hc x (List.mem_cons_of_mem _ hx)
    have h2 := hc e List.mem_cons_self
    have h4 : ledPl (e :: r) = (ledsOf (marks e.2.2 true true)).map (fun ks => (e.1, ks)) ++ ledPl r := by
      unfold ledPl
      rw [List.map_cons, List.flatten_cons]
    have h5 := leds_len e.2.2 true true
    rw [h4, List.length_append, List.length_map, List.length_cons]
    omega
def pdPl (x : Str × List Int) : PyData := .tuple (.str x.1 :: x.2.map PyData.int)
theorem dp_pls {K : PySem.W.Frag} {H : Hp} : ∀ {xs : List (Str × List Int)} {vs : List V}, All2 (PlS H) xs vs → DpAll K H vs (xs.map pdPl)
  | [], [], _ => .nil
  | x :: xs, v :: vs, h => by
    obtain ⟨⟨r, e, hr⟩, h2⟩ := h
    subst e
    exact .cons (.tup (SqT.of hr) (.cons (.str _) (dp_ints _))) (dp_pls h2)
  | [], _ :: _, h => h.elim
  | _ :: _, [], h => h.elim
theorem lay_pl {x : Str × List Int} (h : isW x.1 = true) : (pdPl x).canLay0 = true := layAll fun d hd => by
  rcases List.mem_cons.mp hd with z | z
  · rw [z]
    exact lay_str h
  · obtain ⟨k, _, rfl⟩ := List.mem_map.mp z
    rfl
theorem depth_pl (x : Str × List Int) : (pdPl x).depth ≤ 1 := depth_tup (m := 0) fun d hd => by
  rcases List.mem_cons.mp hd with z | z
  · rw [z]
    exact Nat.le_refl 0
  · obtain ⟨k, _, rfl⟩ := List.mem_map.mp z
    exact Nat.le_refl 0
theorem shaped_pl {x : Str × List Int} (h : isW x.1 = true) : SeqAt.shaped (pdPl x) = true := shaped_of (lay_pl h) (Nat.le_trans (depth_pl x) (by decide))
theorem shaped_pls {xs : List (Str × List Int)} (h : ∀ x ∈ xs, isW x.1 = true) : SeqAt.shaped (.list (xs.map pdPl)) = true := by
  refine shaped_of (layAll fun d hd => ?_) (Nat.le_trans (depth_lst (m := 1) fun d hd => ?_) (by decide))
  · obtain ⟨x, hx, rfl⟩ := List.mem_map.mp hd
    exact lay_pl (h x hx)
  · obtain ⟨x, _, rfl⟩ := List.mem_map.mp hd
    exact depth_pl x

section
variable {P : Program} {w : World} {K : PySem.W.Frag} {mg : Str → Option Value} {base : Heap} {CN CM : Addr}
def spLaw (K : PySem.W.Frag) : Sp := fun vs H Q _ => ∃ (a : Addr) (ns : List Int), vs = [.ref a] ∧ SqL K H a (ns.map V.int) ∧ ns.length ≤ 63 ∧ ∀ H', Q (.bl true) H'
abbrev slaw : Stmt := top 46
theorem sclaw : FnScope ["script", "book", "last", "led", "name", "names", "body", "turn", "found", "other", "place", "tape", "f", "numbers", "trail", "end", "deepest", "left", "step"] ["script"] (defScope slaw) := ⟨rfl, rfl, rfl, by decide +kernel, rfl, by decide +kernel, by decide +kernel⟩
structure Cal (P : Program) (w : World) (K : PySem.W.Frag) (mg : Str → Option Value) (base : Heap) (CX : CXT) (x : Str) (ps : List Str) (k : Nat) (sp : Sp) : Prop where
  c : ∃ f fd, FnOk P w K mg base CX k f fd ps sp ∧ Ref K mg x f fd ps
theorem ok_law (T : Txt K mg) {f : Addr} {fd : FuncData} (F : Fun K "law" "law" slaw f fd)
    (c1 : Cal P w K mg base CX0 "_law_book" ["script", "start"] 30 (spBook K)) (c2 : Cal P w K mg base CX0 "_law_tape" ["script", "k"] 2 (spTape K)) (c3 : Cal P w K mg base CX0 "_law_ends" ["term", "place"] 41 (spEnds 40))
    (c4 : Cal P w K mg base CX0 "_law_numbers" ["tape", "many"] 2 spNums) (c5 : Cal P w K mg base (L2.CX P w) "run" ["book", "f", "numbers", "most"] 7 (spRun CN CM)) (c6 : Cal P w K mg base CX0 "_law_led" ["term", "place", "led"] 41 (spLLed 40))
    (c7 : Cal P w K mg base CX0 "last_places" ["book"] 3 spLastP) (c8 : Cal P w K mg base CX0 "led_places" ["book"] 3 spLedP) : FnOk P w K mg base CX0 42 f fd ["script"] (spLaw K) := by
  obtain ⟨f1, d1, G_law_book, R_law_book⟩ := c1.c
  obtain ⟨f2, d2, G_law_tape, R_law_tape⟩ := c2.c
  obtain ⟨f3, d3, G_law_ends, R_law_ends⟩ := c3.c
  obtain ⟨f4, d4, G_law_numbers, R_law_numbers⟩ := c4.c
  obtain ⟨f5, d5, Grun, Rrun⟩ := c5.c
  obtain ⟨f6, d6, G_law_led, R_law_led⟩ := c6.c
  obtain ⟨f7, d7, Glast_places, Rlast_places⟩ := c7.c
  obtain ⟨f8, d8, Gled_places, Rled_places⟩ := c8.c
  refine F.ok sclaw (fun vs H Q E h => ?_) (fun cdv A outer s H vs Q E hr h => ?_)
  · obtain ⟨a, ns, rfl, _⟩ := h
    rfl
  obtain ⟨sc, ns, rfl, hS, hn63, q⟩ := h
  refine ⟨_, (pss_cons (ps_set (i := 1) sclaw.nd rfl (Or.inl rfl) (pe_call G_law_book (hr.mono (by omega)) rfl R_law_book.m R_law_book.k R_law_book.b .nil pass0 (pa_cons (pv 0) (pa_cons pe_int pa_nil))))
    (pss_cons (ps_set (i := 2) sclaw.nd rfl (Or.inl rfl) (pe_lst pa_nil))
    (pss_cons (ps_set (i := 3) sclaw.nd rfl (Or.inr rfl) (pe_lst pa_nil))
    (pss_cons (ps_for PassesOwn.never rfl (pi_tup (pv 1)) (pg_tup rfl (pgs_cons (pg_name (i := 4) sclaw.nd rfl (Or.inl rfl)) (pgs_cons (pg_name (i := 5) sclaw.nd rfl (Or.inl rfl)) (pgs_cons (pg_name (i := 6) sclaw.nd rfl (Or.inl rfl)) pgs_nil)))) (pss_cons (ps_expr (pe_bm PySem.F.plainAttrs_list PySem.F.slot_list_extend PySem.F.type_list_extend mt_extend (pv 2) (pa_cons (pe_call G_law_ends (hr.mono (by omega)) rfl R_law_ends.m R_law_ends.k R_law_ends.b .nil pass0 (pa_cons (pv 6) (pa_cons (pe_tup (pa_cons (pv 4) pa_nil)) pa_nil))) pa_nil)))
    (pss_one (ps_expr (pe_bm PySem.F.plainAttrs_list PySem.F.slot_list_extend PySem.F.type_list_extend mt_extend (pv 3) (pa_cons (pe_call G_law_led (hr.mono (by omega)) rfl R_law_led.m R_law_led.k R_law_led.b .nil pass0 (pa_cons (pv 6) (pa_cons (pe_tup (pa_cons (pv 4) pa_nil)) (pa_cons pe_bl pa_nil)))) pa_nil))))))
    (pss_cons (ps_for PassesOwn.never rfl (pi_range1 rfl T.m_range (pa_cons pe_int pa_nil)) (pg_name (i := 7) sclaw.nd rfl (Or.inl rfl)) (pss_cons (ps_set (i := 8) sclaw.nd rfl (Or.inl rfl) (pe_call Glast_places (hr.mono (by omega)) rfl Rlast_places.m Rlast_places.k Rlast_places.b .nil pass0 (pa_cons (pv 1) pa_nil)))
    (pss_cons (ps_set (i := 9) sclaw.nd rfl (Or.inl rfl) (pe_call Gled_places (hr.mono (by omega)) rfl Rled_places.m Rled_places.k Rled_places.b .nil pass0 (pa_cons (pv 1) pa_nil)))
    (pss_cons (ps_if (PW.pt (pw_or (pt_not (pt_val (pe_callB call_isi (by rfl) T.m_isinstance (by decide +kernel) (pa_cons (pv 8) (pa_cons (pe_bltn (v := .ty "list") rfl T.m_list (by decide +kernel) rfl) pa_nil))))) (pw_or1 (pt_not (pt_val (pe_callB call_isi (by rfl) T.m_isinstance (by decide +kernel) (pa_cons (pv 9) (pa_cons (pe_bltn (v := .ty "list") rfl T.m_list (by decide +kernel) rfl) pa_nil)))))))) (pss_one (ps_ret pe_bl)) pss_nil)
    (pss_cons (ps_if (PW.pt (pw_or (pt_cmpR (op_neD hr.units) (pv 8) (pv 2) (nomark _)) (pw_or1 (pt_cmpR (op_neD hr.units) (pv 9) (pv 3) (nomark _))))) (pss_one (ps_ret pe_bl)) pss_nil)
    (pss_cons (ps_expr (pe_bm0 PySem.F.plainAttrs_list PySem.F.slot_list_clear PySem.F.type_list_clear mt_clear (pv 8)))
    (pss_one (ps_expr (pe_bm0 PySem.F.plainAttrs_list PySem.F.slot_list_clear PySem.F.type_list_clear mt_clear (pv 9))))))))))
    (pss_cons (ps_if (pt_cmpR (op_neD hr.units) (pe_lc (own := [("place", 10)]) (g := gName 10) (tt := tTest (tOp (rNotInD K) (tVar 10) (tVar 3))) (by rfl) sclaw.nd (pi_list (pv 2)) (blkOk_by (own := [("place", 10)]) (N := ["script", "book", "last", "led", "name", "names", "body", "turn", "found", "other", "place", "tape", "f", "numbers", "trail", "end", "deepest", "left", "step"]) (sc := defScope slaw) (by decide +kernel)) (fun _ _ _ _ _ => (pg_name (i := 10) sclaw.nd rfl (Or.inl rfl))) (fun _ _ _ _ _ => (pts_one (pt_cmpR (op_notInD (u65 hr)) (pv 10) (pv 3) rfl))) (fun _ _ _ _ _ => (pv 10))) (pe_lst pa_nil) (nomark _)) (pss_one (ps_ret pe_bl)) pss_nil)
    (pss_cons (ps_set (i := 11) sclaw.nd rfl (Or.inl rfl) (pe_call G_law_tape (hr.mono (by omega)) rfl R_law_tape.m R_law_tape.k R_law_tape.b .nil pass0 (pa_cons (pv 0) (pa_cons pe_int pa_nil))))
    (pss_cons (ps_for PassesOwn.never rfl (pi_tup (pv 1)) (pg_tup rfl (pgs_cons (pg_name (i := 12) sclaw.nd rfl (Or.inl rfl)) (pgs_cons (pg_name (i := 5) sclaw.nd rfl (Or.inl rfl)) (pgs_cons (pg_name (i := 6) sclaw.nd rfl (Or.inl rfl)) pgs_nil)))) (pss_cons (ps_set (i := 13) sclaw.nd rfl (Or.inl rfl) (pe_call G_law_numbers (hr.mono (by omega)) rfl R_law_numbers.m R_law_numbers.k R_law_numbers.b .nil pass0 (pa_cons (pv 11) (pa_cons (pe_callB call_len_seq (by rfl) T.m_len PySem.boot_len (pa_cons (pv 5) pa_nil)) pa_nil))))
    (pss_cons (ps_asg (pe_call Grun (hr.mono (by omega)) rfl Rrun.m Rrun.k Rrun.b .nil passX (pa_cons (pv 1) (pa_cons (pv 12) (pa_cons (pv 13) (pa_cons pe_int pa_nil))))) (pg_tup rfl (pgs_cons (pg_name (i := 14) sclaw.nd rfl (Or.inl rfl)) (pgs_cons (pg_name (i := 15) sclaw.nd rfl (Or.inl rfl)) (pgs_cons (pg_name (i := 16) sclaw.nd rfl (Or.inl rfl)) (pgs_cons (pg_name (i := 17) sclaw.nd rfl (Or.inl rfl)) pgs_nil))))))
    (pss_one (ps_if (pt_cmpR op_ge (pv 16) (pe_callB (call_max2 rfl) (by rfl) T.m_max (by decide +kernel) (pa_cons pe_int (pa_cons (pe_callB call_len_seq (by rfl) T.m_len PySem.boot_len (pa_cons (pe_lc (own := [("step", 18)]) (g := gName 18) (tt := tTest (tOp rEq (tOp (rIxT K) (tVar 18) (tC (.int 0))) (tC (.str "ask")))) (by rfl) sclaw.nd (pi_list (pv 14)) (blkOk_by (own := [("step", 18)]) (N := ["script", "book", "last", "led", "name", "names", "body", "turn", "found", "other", "place", "tape", "f", "numbers", "trail", "end", "deepest", "left", "step"]) (sc := defScope slaw) (by decide +kernel)) (fun _ _ _ _ _ => (pg_name (i := 18) sclaw.nd rfl (Or.inl rfl))) (fun _ _ _ _ _ => (pts_one (pt_cmpR op_eq (pe_ix ix_tup (pv 18) pe_int (fun _ _ => rfl)) pe_str (nomark _)))) (fun _ _ _ _ _ => (pv 18))) pa_nil)) pa_nil))) (nomark _)) (pss_one (ps_ret pe_bl)) pss_nil)))))
    (pss_one (ps_ret pe_bl)))))))))), ?_⟩
  refine ⟨_, rfl, sc, ns, 0, rfl, hS, by decide, by decide, fun p es us H1 s1 hB hG => ?_⟩
  obtain ⟨hd, E0⟩ := es_ok hG hB
  have hl6 := hG.len.2
  have hl1 := hG.len.1
  have hul := hB.2.len
  have hS1 := s1.seq hS
  have hc40 : ∀ e ∈ es, cnt e.2.2 ≤ 40 := fun e he => (E0.er e he).cn
  have hc : ∀ e ∈ es, cnt e.2.2 ≤ 1000 := fun e he => Nat.le_trans (hc40 e he) (by decide)
  -- last, led
  refine ⟨sz (by show 0 ≤ 100000; decide), fun ll hll => ?_⟩
  have t1 := same_new hll (.lst [])
  refine ⟨sz (by show 0 ≤ 100000; decide), fun dl hdl => ?_⟩
  have t2 := same_new hdl (.lst [])
  have t12 := t1.trans t2
  have nld : ll ≠ dl := ne_of_none (upd_same (H := H1) (a := ll) (o := .lst [])) hdl
  have hdl1 : H1 dl = none := t1.free hdl
  refine ⟨_, rfl, p, rfl, ⟨_, SqT.of (t12 _ _ hB.1)⟩, for_tup (xs := us) (fun i σ H' => ∃ o4 o5 o6 lv dv, σ = [some (.ref sc), some (.ref p), some (.ref ll), some (.ref dl), o4, o5, o6, none, none, none, none, none, none, none, none, none, none, none, none] ∧ Same H1 H' ∧ H' ll = some (.lst lv) ∧ All2 (PlS H') (lastPl (es.take i)) lv ∧ H' dl = some (.lst dv) ∧ All2 (PlS H') (ledPl (es.take i)) dv) ?_ ?_ ?_ ?_⟩
  · refine ⟨_, _, _, [], [], rfl, t12, t2 _ _ upd_same, ?_, upd_same, ?_⟩
    · rw [List.take_zero]
      exact trivial
    · rw [List.take_zero]
      exact trivial
  · rintro i σ H' _ ⟨_, _, _, _, _, rfl, sB, _⟩
    exact SqT.of (sB _ _ hB.1)
  · rintro i x σ H2 hx ⟨o4, o5, o6, lv, dv, rfl, s2, hlv, klv, hdv, kdv⟩
    obtain ⟨e, he, qa, rn, b, rfl, g1, g2, g3⟩ := hB.2.get hx
    have hee := mem_of_get he
    have hce := hc40 e hee
    refine ⟨qa, _, rfl, SqT.of (s2 _ _ g1), rfl, _, _, rfl, _, _, rfl, _, _, rfl, rfl, ?_⟩
    have hlt1 := lastPl_len (es := es.take i) fun x hx => hc x (List.mem_of_mem_take hx)
    have hlt2 := ledPl_len (es := es.take i) fun x hx => hc x (List.mem_of_mem_take hx)
    have hlt3 : (es.take i).length ≤ es.length := by
      rw [List.length_take]
      omega
    have hkl := klv.len
    have hkd := kdv.len
    -- last.extend(_law_ends(body, (name,)))
    refine ⟨_, rfl, .inl ⟨rfl, _, SqL.of hlv⟩, _, rfl, _, rfl, sz (by show 1 ≤ 100000; decide), fun pn hpn => ?_⟩
    have u1 := same_new hpn (.tup [.str e.1])
    refine ⟨b, pn, e.2.2, [.str e.1], rfl, g3.mono (s2.trans u1), upd_same, hce, by show 1 + _ ≤ 2000; omega, fun p4 H4 its4 hp4 u2 h4 k4 => ?_⟩
    have u12 := u1.trans u2
    have l4 := k4.len
    have el := ends_len e.2.2
    have f4 := u12 _ _ hlv
    refine ⟨ll, p4, _, _, rfl, rfl, f4, h4, sz (by omega), ?_⟩
    have tk1 := tk_put (o := .lst (lv ++ its4)) f4
    have s5 : Same H1 (upd H4 ll (.lst (lv ++ its4))) := same_mut (s2.trans u12) hll
    have l5 : upd H4 ll (.lst (lv ++ its4)) ll = some (.lst (lv ++ its4)) := upd_same
    have d5 : upd H4 ll (.lst (lv ++ its4)) dl = some (.lst dv) := by
      rw [upd_ne nld.symm]
      exact u12 _ _ hdv
    have tkA := (tk_same u12).trans tk1
    have kl5 : All2 (PlS (upd H4 ll (.lst (lv ++ its4)))) (lastPl (es.take (i + 1))) (lv ++ its4) := by
      rw [lastPl_take he]
      exact (klv.imp fun _ _ z => z.tk tkA).app (All2.map (R := PlS _) (f := fun ks => (e.1, ks)) (k4.imp fun ks v z => z.tk tk1))
    have kd5 := kdv.imp fun _ _ z => PlS.tk tkA z
    have g5 := (g3.mono s2).tk tkA
    revert s5 l5 d5 kl5 kd5 g5
    generalize upd H4 ll (.lst (lv ++ its4)) = H5
    intro s5 l5 d5 kl5 kd5 g5
    -- led.extend(_law_led(body, (name,), True))
    refine ⟨_, rfl, .inl ⟨rfl, _, SqL.of d5⟩, _, rfl, _, rfl, sz (by show 1 ≤ 100000; decide), fun pm hpm => ?_⟩
    have v1 := same_new hpm (.tup [.str e.1])
    refine ⟨b, pm, e.2.2, [.str e.1], true, rfl, g5.mono v1, upd_same, hce, by show 1 + _ ≤ 2000; omega, fun p6 H6 its6 hp6 v2 h6 k6 => ?_⟩
    have v12 := v1.trans v2
    have l6 := k6.len
    have el2 := leds_len e.2.2 true false
    have f6 := v12 _ _ d5
    refine ⟨dl, p6, _, _, rfl, rfl, f6, h6, sz (by omega), ?_⟩
    have tk2 := tk_put (o := .lst (dv ++ its6)) f6
    have tkB := (tk_same v12).trans tk2
    refine ⟨_, _, _, _, _, rfl, same_mut (s5.trans v12) hdl1, by rw [upd_ne nld]; exact v12 _ _ l5, kl5.imp fun _ _ z => z.tk tkB, upd_same, ?_⟩
    rw [ledPl_take he, leds_ls e.2.2 true true false]
    exact (kd5.imp fun _ _ z => z.tk tkB).app (All2.map (R := PlS _) (f := fun ks => (e.1, ks)) (k6.imp fun ks v z => z.tk tk2))
  rintro σ H2 ⟨o4, o5, o6, lv, dv, rfl, s2, hlv, klv, hdv, kdv⟩
  rw [hul, List.take_length] at klv kdv
  have hB2 := hB.tk (tk_same s2)
  have hS2 := s2.seq hS1
  have hplW : ∀ x ∈ lastPl es, isW x.1 = true := fun x hx => by
    obtain ⟨l, hl, hx⟩ := List.mem_flatten.mp hx
    obtain ⟨e, he, rfl⟩ := List.mem_map.mp hl
    obtain ⟨ks, hk, rfl⟩ := List.mem_map.mp hx
    exact (E0.er e he).w
  have hpdW : ∀ x ∈ ledPl es, isW x.1 = true := fun x hx => by
    obtain ⟨l, hl, hx⟩ := List.mem_flatten.mp hx
    obtain ⟨e, he, rfl⟩ := List.mem_map.mp hl
    obtain ⟨ks, hk, rfl⟩ := List.mem_map.mp hx
    exact (E0.er e he).w
  have hshL := shaped_pls hplW
  have hshD := shaped_pls hpdW
  clear t1 hll t2 hdl t12 hdl1
  -- found, other
  refine ⟨2, rfl, by decide, by decide, for_range (lo := 0) (n := 2) (fun i σ H' => ∃ o7 o8 o9, σ = [some (.ref sc), some (.ref p), some (.ref ll), some (.ref dl), o4, o5, o6, o7, o8, o9, none, none, none, none, none, none, none, none, none] ∧ Same H2 H') ⟨_, _, _, rfl, Same.refl _⟩ ?_ ?_⟩
  · rintro i σ H3 hi ⟨o7, o8, o9, rfl, s3⟩
    refine ⟨_, rfl, p, es, us, rfl, hB2.tk (tk_same s3), hl6, hc, fun fl H4 its hfl s4 h4 k4 => ?_⟩
    have s34 := s3.trans s4
    refine ⟨_, rfl, p, es, us, rfl, hB2.tk (tk_same s34), hl6, hc, fun ol H5 ots hol s5 h5 k5 => ?_⟩
    have s35 := s34.trans s5
    have h45 := s5 _ _ h4
    have nfo : fl ≠ ol := ne_of_none h4 hol
    refine ⟨_, rfl, .ref fl, .ty "list", .type "list", .type "list", true, rfl, .ty "list", .base (.lst h45), kit_ty (by decide +kernel), _, rfl, ?_⟩
    refine iteF ⟨_, rfl, .ref ol, .ty "list", .type "list", .type "list", true, rfl, .ty "list", .base (.lst h5), kit_ty (by decide +kernel), _, rfl, ?_⟩
    refine iteF ⟨_, rfl, _, rfl, .list ((lastPl es).map pdPl), .list ((lastPl es).map pdPl), .lst (SqL.of h45) (dp_pls (k4.imp fun _ _ z => z.tk (tk_same s5))), .lst (SqL.of (s35 _ _ hlv)) (dp_pls (klv.imp fun _ _ z => z.tk (tk_same s35))), hshL, hshL, _, rfl, ?_⟩
    refine itF (by rw [eqv_self hshL]; rfl) ⟨_, rfl, _, rfl, .list ((ledPl es).map pdPl), .list ((ledPl es).map pdPl), .lst (SqL.of h5) (dp_pls k5), .lst (SqL.of (s35 _ _ hdv)) (dp_pls (kdv.imp fun _ _ z => z.tk (tk_same s35))), hshD, hshD, _, rfl, ?_⟩
    refine itF (by rw [eqv_self hshD]; rfl) ⟨_, rfl, .inl ⟨rfl, _, SqL.of h45⟩, fl, _, rfl, rfl, h45, ?_⟩
    have hol5 : upd H5 fl (.lst []) ol = some (.lst ots) := by
      rw [upd_ne nfo.symm]
      exact h5
    refine ⟨_, rfl, .inl ⟨rfl, _, SqL.of hol5⟩, ol, _, rfl, rfl, hol5, ?_⟩
    have nfl2 : H2 fl = none := s3.free hfl
    have nol2 : H2 ol = none := s34.free hol
    exact ⟨_, _, _, rfl, same_mut (same_mut s35 nfl2) nol2⟩
  rintro σ H3 ⟨o7, o8, o9, rfl, s3⟩
  have hlv3 := s3 _ _ hlv
  have hdv3 := s3 _ _ hdv
  have klv3 := klv.imp fun _ _ z => PlS.tk (tk_same s3) z
  have kdv3 := kdv.imp fun _ _ z => PlS.tk (tk_same s3) z
  have hB3 := hB2.tk (tk_same s3)
  have hS3 := s3.seq hS2
  -- each last one is led on
  refine ⟨_, rfl, ll, rfl, ⟨_, SqL.of hlv3⟩, fun D hD => lc_list (K := K) (a := ll) (xs := lv) (fun j H' => Same H3 H' ∧ H' D = some (.lst [])) ⟨same_new hD _, upd_same⟩ ?_ ?_ ?_⟩
  · rintro j H' _ ⟨sB, _⟩
    exact SqL.of (sB _ _ hlv3)
  · rintro j v H4 hv ⟨s4, h4⟩
    obtain ⟨x, hx, r, rfl, hr0⟩ := klv3.get hv
    have hxm := mem_of_get hx
    have hin := last_in_led es x hxm
    refine ⟨rfl, ?_⟩
    refine ⟨_, rfl, _, rfl, pdPl x, (ledPl es).map pdPl, .tup (SqT.of (s4 _ _ hr0)) (.cons (.str _) (dp_ints _)), .lst (SqL.of (s4 _ _ hdv3)) (dp_pls (kdv3.imp fun _ _ z => z.tk (tk_same s4))), shaped_pl (hplW x hxm), hshD, _, rfl, ?_⟩
    have hany : (((ledPl es).map pdPl).any fun z => PyData.eqv z (pdPl x)) = true := List.any_eq_true.mpr ⟨pdPl x, List.mem_map_of_mem (f := pdPl) hin, eqv_self (shaped_pl (hplW x hxm))⟩
    exact itF (by rw [hany]; rfl) ⟨s4, h4⟩
  rintro H4 ⟨s4, h4⟩
  refine ⟨sz (by show 0 ≤ 100000; decide), fun pz hpz => ?_⟩
  have s5 := same_new hpz (.lst [])
  have hsh0 : SeqAt.shaped (.list []) = true := shaped_of (by rfl) (by decide)
  refine ⟨.list [], .list [], .lst (SqL.of (s5 _ _ h4)) .nil, .lst (SqL.of upd_same) .nil, hsh0, hsh0, _, rfl, ?_⟩
  refine itF (congrArg (!·) (eqv_self hsh0)) ?_
  have s35 := s4.trans s5
  have hB5 := hB3.tk (tk_same s35)
  have hS5 := s35.seq hS3
  revert hB5 hS5
  generalize upd H4 pz (.lst []) = H5
  intro hB5 hS5
  -- the tape
  refine ⟨_, rfl, sc, ns, 6, rfl, hS5, by decide, by decide, fun tp z htp => ?_⟩
  have t5 : Tp (upd H5 tp (.lst [.int z])) tp := ⟨z, upd_same⟩
  have u5 : Same H5 (upd H5 tp (.lst [.int z])) := same_new htp _
  revert t5 u5
  generalize upd H5 tp (.lst [.int z]) = H6
  intro t5 u5
  have hle : ∀ x ∈ es, x.2.1.length ≤ 100 := fun x hx => by
    have := (E0.er x hx).n4
    omega
  refine ⟨_, rfl, p, rfl, ⟨_, SqT.of (u5 _ _ hB5.1)⟩, for_tup (xs := us) (fun i σ H' => ∃ q5 q6 q12 q13 q14 q15 q16 q17, σ = [some (.ref sc), some (.ref p), some (.ref ll), some (.ref dl), o4, q5, q6, o7, o8, o9, none, some (.ref tp), q12, q13, q14, q15, q16, q17, none] ∧ Same H5 H' ∧ Tp H' tp) ⟨_, _, _, _, _, _, _, _, rfl, u5, t5⟩ ?_ ?_ ?_⟩
  · rintro i σ H' _ ⟨_, _, _, _, _, _, _, _, rfl, sB, _⟩
    exact SqT.of (sB _ _ hB5.1)
  · rintro i x σ H7 hx ⟨q5, q6, q12, q13, q14, q15, q16, q17, rfl, s7, t7⟩
    have hB7 := hB5.tk (tk_same s7)
    obtain ⟨e, hej, qa, ra, ba, rfl, g1, g2, g3⟩ := hB7.2.get hx
    have he := mem_of_get hej
    have hE := E0.er e he
    refine ⟨qa, _, rfl, SqT.of g1, rfl, _, _, rfl, _, _, rfl, _, _, rfl, rfl, ?_⟩
    have hn4 := hE.n4
    have e4 : (e.2.1.map V.str).length = e.2.1.length := List.length_map ..
    refine ⟨_, rfl, _, rfl, ra, _, rfl, .inr (SqT.of g2), tp, (e.2.1.map V.str).length, rfl, t7, by omega, fun nb H8 ks hnb b8 t8 h8 hl8 hz8 => ?_⟩
    have s8 : Same H5 H8 := same_but htp s7 b8
    have hB8 := hB5.tk (tk_same s8)
    have hkl : e.2.1.length = ks.length := by omega
    have hfd : hd e.1 = some ks.length := by rw [E0.hd he, hkl]
    refine ⟨_, rfl, _, rfl, _, rfl, p, nb, es, us, hd, e.1, ks, 60, rfl, hB8, hl6, hG.nd, E0, h8, by omega, hle, fun _ _ H9 q9 tl9 tv9 ev9 w9 s9 hq9 ntl9 htl9 hte9 hfe9 hn9 hr9 => ?_, fun hno _ _ => (hno e he rfl hkl).elim, fun _ hbad _ _ => (hbad ⟨by decide, by decide⟩).elim⟩
    refine ⟨q9, _, rfl, SqT.of hq9, rfl, _, _, rfl, _, _, rfl, _, _, rfl, _, _, rfl, rfl, ?_⟩
    have g9 := go_of E0 hr9 (go_start E0 hfd (by decide))
    have hdeep := deep_lt E0 hfd (by decide) hr9
    have ln9 := g9.ln
    have htl2 := hte9.len
    refine ⟨_, rfl, _, rfl, tl9, rfl, ⟨_, SqL.of htl9⟩, fun D2 hD2 => lc_list (K := K) (a := tl9) (xs := tv9) (fun j H' => Same H9 H' ∧ ∃ acc, H' D2 = some (.lst acc) ∧ acc.length = nAsk (w9.trail.take j)) ⟨same_new hD2 _, [], upd_same, rfl⟩ ?_ ?_ ?_⟩
    · rintro j H' _ ⟨sB, _⟩
      exact SqL.of (sB _ _ htl9)
    · rintro j x H10 hx ⟨s10, acc, h10, hl10⟩
      obtain ⟨ev, hev, hvv⟩ := hte9.get hx
      obtain ⟨hj, hj2⟩ := List.getElem?_eq_some_iff.mp hev
      have hle10 : nAsk (w9.trail.take j) ≤ 900000 := by
        unfold nAsk
        have := List.length_filter_le isAskE (w9.trail.take j)
        rw [List.length_take] at this
        omega
      have hnext : nAsk (w9.trail.take (j + 1)) = nAsk (w9.trail.take j) + nAsk [ev] := by
        rw [List.take_succ_eq_append_getElem hj, hj2, nAsk_app]
      refine ⟨rfl, ?_⟩
      cases ev with
      | ask g ks =>
        obtain ⟨qx, r, rfl, x1, x2⟩ := hvv
        refine ⟨_, rfl, qx, _, _, _, rfl, rfl, SqT.of (s10 _ _ x1), at0, rfl, _, rfl, ?_⟩
        refine iteT ⟨_, rfl, acc, h10, Nat.lt_of_le_of_lt (m := 900000) (by omega) (by decide), same_mut s10 hD2, _, upd_same, ?_⟩
        rw [hnext, List.length_append, hl10]
        rfl
      | tell z =>
        obtain ⟨qx, rfl, x1⟩ := hvv
        refine ⟨_, rfl, qx, _, _, _, rfl, rfl, SqT.of (s10 _ _ x1), at0, rfl, _, rfl, ?_⟩
        refine iteF ⟨s10, acc, h10, ?_⟩
        rw [hnext, hl10]
        rfl
    rintro H10 ⟨s10, acc, h10, hl10⟩
    have e10 : (w9.trail.take tv9.length) = w9.trail := by rw [htl2, List.take_length]
    rw [e10] at hl10
    refine ⟨D2, _, rfl, .inl (SqL.of h10), _, _, rfl, _, _, rfl, rfl, _, rfl, ?_⟩
    refine itF (decide_eq_false ?_) ⟨_, _, _, _, _, _, _, _, rfl, s8.trans (s9.trans s10), (t8.same s9).same s10⟩
    rw [hl10]
    split <;> omega
  · rintro σ H7 ⟨_, _, _, _, _, _, _, _, rfl, _, _⟩
    exact q _
end
end KB

namespace KB
open PySem L2
theorem all_mk {l : PySem.W.OpenLaw} {w : World} {K : PySem.W.Frag} {h : Heap} {mg : Str → Option Value} {fa : Addr} (X : K.In h) (G : h.Ns mainGlobals mg) (hfa : mg "law" = some (.ref fa))
    {f1 f2 f3 f4 f5 f6 f7 f8 f9 f10 f11 f12 f13 f14 f15 f16 f17 f18 f19 f20 f21 f22 f23 f24 f25 f26 f27 f28 f29 f30 f31 m1 m2 m3 m4 m5 m6 m7 m8 m9 m10 m11 CA CS C CN CM : Addr}
    {od1 an1 od2 an2 od3 an3 od4 an4 od5 an5 od6 an6 od7 an7 od8 an8 od9 an9 od10 an10 od11 an11 od12 an12 od13 an13 od14 an14 od15 an15 od16 an16 od17 an17 od18 an18 od19 an19 od20 an20 od21 an21 od22 an22 od23 an23 od24 an24 od25 an25 od26 an26 od27 an27 od28 an28 od29 an29 od30 an30 od31 an31 mod1 man1 mod2 man2 mod3 man3 mod4 man4 mod5 man5 mod6 man6 mod7 man7 mod8 man8 mod9 man9 mod10 man10 mod11 man11 : Option Addr}
    {sl1 sl2 sl3 sl4 sl5 sl6 sl7 sl8 sl9 sl10 sl11 sl12 sl13 sl14 sl15 sl16 sl17 sl18 sl19 sl20 sl21 sl22 sl23 sl24 sl25 sl26 sl27 sl28 sl29 sl30 sl31 msl1 msl2 msl3 msl4 msl5 msl6 msl7 msl8 msl9 msl10 msl11 : Array (Option Value)}
    {oc1 kV1 dc1 pm1 cd1 ct1 oc2 kV2 dc2 pm2 cd2 ct2 oc3 kV3 dc3 pm3 cd3 ct3 oc4 kV4 dc4 pm4 cd4 ct4 oc5 kV5 dc5 pm5 cd5 ct5 oc6 kV6 dc6 pm6 cd6 ct6 oc7 kV7 dc7 pm7 cd7 ct7 oc8 kV8 dc8 pm8 cd8 ct8 oc9 kV9 dc9 pm9 cd9 ct9 oc10 kV10 dc10 pm10 cd10 ct10 oc11 kV11 dc11 pm11 cd11 ct11 oc12 kV12 dc12 pm12 cd12 ct12 oc13 kV13 dc13 pm13 cd13 ct13 oc14 kV14 dc14 pm14 cd14 ct14 oc15 kV15 dc15 pm15 cd15 ct15 oc16 kV16 dc16 pm16 cd16 ct16 oc17 kV17 dc17 pm17 cd17 ct17 oc18 kV18 dc18 pm18 cd18 ct18 oc19 kV19 dc19 pm19 cd19 ct19 oc20 kV20 dc20 pm20 cd20 ct20 oc21 kV21 dc21 pm21 cd21 ct21 oc22 kV22 dc22 pm22 cd22 ct22 oc23 kV23 dc23 pm23 cd23 ct23 oc24 kV24 dc24 pm24 cd24 ct24 oc25 kV25 dc25 pm25 cd25 ct25 oc26 kV26 dc26 pm26 cd26 ct26 oc27 kV27 dc27 pm27 cd27 ct27 oc28 kV28 dc28 pm28 cd28 ct28 oc29 kV29 dc29 pm29 cd29 ct29 oc30 kV30 dc30 pm30 cd30 ct30 oc31 kV31 dc31 pm31 cd31 ct31 moc1 mkV1 mdc1 mpm1 mcd1 mct1 moc2 mkV2 mdc2 mpm2 mcd2 mct2 moc3 mkV3 mdc3 mpm3 mcd3 mct3 moc4 mkV4 mdc4 mpm4 mcd4 mct4 moc5 mkV5 mdc5 mpm5 mcd5 mct5 moc6 mkV6 mdc6 mpm6 mcd6 mct6 moc7 mkV7 mdc7 mpm7 mcd7 mct7 moc8 mkV8 mdc8 mpm8 mcd8 mct8 moc9 mkV9 mdc9 mpm9 mcd9 mct9 moc10 mkV10 mdc10 mpm10 mcd10 mct10 moc11 mkV11 mdc11 mpm11 mcd11 mct11 : Value}
    (a1 : PySem.W.nsIn K mainGlobals "is_whole" = some (some (.ref f1)))
    (l1 : K.lookup f1 = some ⟨oc1, od1, .func (PySem.W.fnOf "is_whole" "is_whole" (defArgs sis_whole) (defBody sis_whole) (defScope sis_whole) .none kV1 dc1 pm1 an1 cd1 ct1), sl1⟩)
    (c1 : PySem.W.codeIn K cd1 "is_whole" = true)
    (k1 : PySem.W.keepIn K (.ref f1) = true)
    (a2 : PySem.W.nsIn K mainGlobals "parts_of" = some (some (.ref f2)))
    (l2 : K.lookup f2 = some ⟨oc2, od2, .func (PySem.W.fnOf "parts_of" "parts_of" (defArgs sparts_of) (defBody sparts_of) (defScope sparts_of) .none kV2 dc2 pm2 an2 cd2 ct2), sl2⟩)
    (c2 : PySem.W.codeIn K cd2 "parts_of" = true)
    (k2 : PySem.W.keepIn K (.ref f2) = true)
    (a3 : PySem.W.nsIn K mainGlobals "first_parts" = some (some (.ref f3)))
    (l3 : K.lookup f3 = some ⟨oc3, od3, .func (PySem.W.fnOf "first_parts" "first_parts" (defArgs sfirst) (defBody sfirst) (defScope sfirst) .none kV3 dc3 pm3 an3 cd3 ct3), sl3⟩)
    (c3 : PySem.W.codeIn K cd3 "first_parts" = true)
    (k3 : PySem.W.keepIn K (.ref f3) = true)
    (a4 : PySem.W.nsIn K mainGlobals "errand_named" = some (some (.ref f4)))
    (l4 : K.lookup f4 = some ⟨oc4, od4, .func (PySem.W.fnOf "errand_named" "errand_named" (defArgs serrand_named) (defBody serrand_named) (defScope serrand_named) .none kV4 dc4 pm4 an4 cd4 ct4), sl4⟩)
    (c4 : PySem.W.codeIn K cd4 "errand_named" = true)
    (k4 : PySem.W.keepIn K (.ref f4) = true)
    (a5 : PySem.W.nsIn K mainGlobals "need_errand" = some (some (.ref f5)))
    (l5 : K.lookup f5 = some ⟨oc5, od5, .func (PySem.W.fnOf "need_errand" "need_errand" (defArgs sneed_errand) (defBody sneed_errand) (defScope sneed_errand) .none kV5 dc5 pm5 an5 cd5 ct5), sl5⟩)
    (c5 : PySem.W.codeIn K cd5 "need_errand" = true)
    (k5 : PySem.W.keepIn K (.ref f5) = true)
    (a6 : PySem.W.nsIn K mainGlobals "need_asking" = some (some (.ref f6)))
    (l6 : K.lookup f6 = some ⟨oc6, od6, .func (PySem.W.fnOf "need_asking" "need_asking" (defArgs sneed_asking) (defBody sneed_asking) (defScope sneed_asking) .none kV6 dc6 pm6 an6 cd6 ct6), sl6⟩)
    (c6 : PySem.W.codeIn K cd6 "need_asking" = true)
    (k6 : PySem.W.keepIn K (.ref f6) = true)
    (a7 : PySem.W.nsIn K mainGlobals "need_most" = some (some (.ref f7)))
    (l7 : K.lookup f7 = some ⟨oc7, od7, .func (PySem.W.fnOf "need_most" "need_most" (defArgs sneed_most) (defBody sneed_most) (defScope sneed_most) .none kV7 dc7 pm7 an7 cd7 ct7), sl7⟩)
    (c7 : PySem.W.codeIn K cd7 "need_most" = true)
    (k7 : PySem.W.keepIn K (.ref f7) = true)
    (a8 : PySem.W.nsIn K mainGlobals "last_taken" = some (some (.ref f8)))
    (l8 : K.lookup f8 = some ⟨oc8, od8, .func (PySem.W.fnOf "last_taken" "last_taken" (defArgs slast_taken) (defBody slast_taken) (defScope slast_taken) .none kV8 dc8 pm8 an8 cd8 ct8), sl8⟩)
    (c8 : PySem.W.codeIn K cd8 "last_taken" = true)
    (k8 : PySem.W.keepIn K (.ref f8) = true)
    (a9 : PySem.W.nsIn K mainGlobals "combined" = some (some (.ref f9)))
    (l9 : K.lookup f9 = some ⟨oc9, od9, .func (PySem.W.fnOf "combined" "combined" (defArgs scombined) (defBody scombined) (defScope scombined) .none kV9 dc9 pm9 an9 cd9 ct9), sl9⟩)
    (c9 : PySem.W.codeIn K cd9 "combined" = true)
    (k9 : PySem.W.keepIn K (.ref f9) = true)
    (a10 : PySem.W.nsIn K mainGlobals "run" = some (some (.ref f10)))
    (l10 : K.lookup f10 = some ⟨oc10, od10, .func (PySem.W.fnOf "run" "run" (defArgs srun) (defBody srun) (defScope srun) .none kV10 dc10 pm10 an10 cd10 ct10), sl10⟩)
    (c10 : PySem.W.codeIn K cd10 "run" = true)
    (k10 : PySem.W.keepIn K (.ref f10) = true)
    (a11 : PySem.W.nsIn K mainGlobals "_law_cell_at" = some (some (.ref f11)))
    (l11 : K.lookup f11 = some ⟨oc11, od11, .func (PySem.W.fnOf "_law_cell_at" "_law_cell_at" (defArgs s_law_cell_at) (defBody s_law_cell_at) (defScope s_law_cell_at) .none kV11 dc11 pm11 an11 cd11 ct11), sl11⟩)
    (c11 : PySem.W.codeIn K cd11 "_law_cell_at" = true)
    (k11 : PySem.W.keepIn K (.ref f11) = true)
    (a12 : PySem.W.nsIn K mainGlobals "_law_tape" = some (some (.ref f12)))
    (l12 : K.lookup f12 = some ⟨oc12, od12, .func (PySem.W.fnOf "_law_tape" "_law_tape" (defArgs s_law_tape) (defBody s_law_tape) (defScope s_law_tape) .none kV12 dc12 pm12 an12 cd12 ct12), sl12⟩)
    (c12 : PySem.W.codeIn K cd12 "_law_tape" = true)
    (k12 : PySem.W.keepIn K (.ref f12) = true)
    (a13 : PySem.W.nsIn K mainGlobals "_law_digit" = some (some (.ref f13)))
    (l13 : K.lookup f13 = some ⟨oc13, od13, .func (PySem.W.fnOf "_law_digit" "_law_digit" (defArgs s_law_digit) (defBody s_law_digit) (defScope s_law_digit) .none kV13 dc13 pm13 an13 cd13 ct13), sl13⟩)
    (c13 : PySem.W.codeIn K cd13 "_law_digit" = true)
    (k13 : PySem.W.keepIn K (.ref f13) = true)
    (a14 : PySem.W.nsIn K mainGlobals "_law_words" = some (some (.ref f14)))
    (l14 : K.lookup f14 = some ⟨oc14, od14, .func (PySem.W.fnOf "_law_words" "_law_words" (defArgs s_law_words) (defBody s_law_words) (defScope s_law_words) .none kV14 dc14 pm14 an14 cd14 ct14), sl14⟩)
    (c14 : PySem.W.codeIn K cd14 "_law_words" = true)
    (k14 : PySem.W.keepIn K (.ref f14) = true)
    (a15 : PySem.W.nsIn K mainGlobals "_law_number" = some (some (.ref f15)))
    (l15 : K.lookup f15 = some ⟨oc15, od15, .func (PySem.W.fnOf "_law_number" "_law_number" (defArgs s_law_number) (defBody s_law_number) (defScope s_law_number) .none kV15 dc15 pm15 an15 cd15 ct15), sl15⟩)
    (c15 : PySem.W.codeIn K cd15 "_law_number" = true)
    (k15 : PySem.W.keepIn K (.ref f15) = true)
    (a16 : PySem.W.nsIn K mainGlobals "_law_leaf" = some (some (.ref f16)))
    (l16 : K.lookup f16 = some ⟨oc16, od16, .func (PySem.W.fnOf "_law_leaf" "_law_leaf" (defArgs s_law_leaf) (defBody s_law_leaf) (defScope s_law_leaf) .none kV16 dc16 pm16 an16 cd16 ct16), sl16⟩)
    (c16 : PySem.W.codeIn K cd16 "_law_leaf" = true)
    (k16 : PySem.W.keepIn K (.ref f16) = true)
    (a17 : PySem.W.nsIn K mainGlobals "_law_shares" = some (some (.ref f17)))
    (l17 : K.lookup f17 = some ⟨oc17, od17, .func (PySem.W.fnOf "_law_shares" "_law_shares" (defArgs s_law_shares) (defBody s_law_shares) (defScope s_law_shares) .none kV17 dc17 pm17 an17 cd17 ct17), sl17⟩)
    (c17 : PySem.W.codeIn K cd17 "_law_shares" = true)
    (k17 : PySem.W.keepIn K (.ref f17) = true)
    (a18 : PySem.W.nsIn K mainGlobals "_law_less_one" = some (some (.ref f18)))
    (l18 : K.lookup f18 = some ⟨oc18, od18, .func (PySem.W.fnOf "_law_less_one" "_law_less_one" (defArgs s_law_less_one) (defBody s_law_less_one) (defScope s_law_less_one) .none kV18 dc18 pm18 an18 cd18 ct18), sl18⟩)
    (c18 : PySem.W.codeIn K cd18 "_law_less_one" = true)
    (k18 : PySem.W.keepIn K (.ref f18) = true)
    (a19 : PySem.W.nsIn K mainGlobals "_law_ask" = some (some (.ref f19)))
    (l19 : K.lookup f19 = some ⟨oc19, od19, .func (PySem.W.fnOf "_law_ask" "_law_ask" (defArgs s_law_ask) (defBody s_law_ask) (defScope s_law_ask) .none kV19 dc19 pm19 an19 cd19 ct19), sl19⟩)
    (c19 : PySem.W.codeIn K cd19 "_law_ask" = true)
    (k19 : PySem.W.keepIn K (.ref f19) = true)
    (a20 : PySem.W.nsIn K mainGlobals "_law_term" = some (some (.ref f20)))
    (l20 : K.lookup f20 = some ⟨oc20, od20, .func (PySem.W.fnOf "_law_term" "_law_term" (defArgs s_law_term) (defBody s_law_term) (defScope s_law_term) .none kV20 dc20 pm20 an20 cd20 ct20), sl20⟩)
    (c20 : PySem.W.codeIn K cd20 "_law_term" = true)
    (k20 : PySem.W.keepIn K (.ref f20) = true)
    (a21 : PySem.W.nsIn K mainGlobals "_law_body" = some (some (.ref f21)))
    (l21 : K.lookup f21 = some ⟨oc21, od21, .func (PySem.W.fnOf "_law_body" "_law_body" (defArgs s_law_body) (defBody s_law_body) (defScope s_law_body) .none kV21 dc21 pm21 an21 cd21 ct21), sl21⟩)
    (c21 : PySem.W.codeIn K cd21 "_law_body" = true)
    (k21 : PySem.W.keepIn K (.ref f21) = true)
    (a22 : PySem.W.nsIn K mainGlobals "_law_book" = some (some (.ref f22)))
    (l22 : K.lookup f22 = some ⟨oc22, od22, .func (PySem.W.fnOf "_law_book" "_law_book" (defArgs s_law_book) (defBody s_law_book) (defScope s_law_book) .none kV22 dc22 pm22 an22 cd22 ct22), sl22⟩)
    (c22 : PySem.W.codeIn K cd22 "_law_book" = true)
    (k22 : PySem.W.keepIn K (.ref f22) = true)
    (a23 : PySem.W.nsIn K mainGlobals "last_places" = some (some (.ref f23)))
    (l23 : K.lookup f23 = some ⟨oc23, od23, .func (PySem.W.fnOf "last_places" "last_places" (defArgs slast_places) (defBody slast_places) (defScope slast_places) .none kV23 dc23 pm23 an23 cd23 ct23), sl23⟩)
    (c23 : PySem.W.codeIn K cd23 "last_places" = true)
    (k23 : PySem.W.keepIn K (.ref f23) = true)
    (a24 : PySem.W.nsIn K mainGlobals "led_places" = some (some (.ref f24)))
    (l24 : K.lookup f24 = some ⟨oc24, od24, .func (PySem.W.fnOf "led_places" "led_places" (defArgs sled_places) (defBody sled_places) (defScope sled_places) .none kV24 dc24 pm24 an24 cd24 ct24), sl24⟩)
    (c24 : PySem.W.codeIn K cd24 "led_places" = true)
    (k24 : PySem.W.keepIn K (.ref f24) = true)
    (a25 : PySem.W.nsIn K mainGlobals "marked_places" = some (some (.ref f25)))
    (l25 : K.lookup f25 = some ⟨oc25, od25, .func (PySem.W.fnOf "marked_places" "marked_places" (defArgs smarked_places) (defBody smarked_places) (defScope smarked_places) .none kV25 dc25 pm25 an25 cd25 ct25), sl25⟩)
    (c25 : PySem.W.codeIn K cd25 "marked_places" = true)
    (k25 : PySem.W.keepIn K (.ref f25) = true)
    (a26 : PySem.W.nsIn K mainGlobals "marks_of_part" = some (some (.ref f26)))
    (l26 : K.lookup f26 = some ⟨oc26, od26, .func (PySem.W.fnOf "marks_of_part" "marks_of_part" (defArgs smarks_of_part) (defBody smarks_of_part) (defScope smarks_of_part) .none kV26 dc26 pm26 an26 cd26 ct26), sl26⟩)
    (c26 : PySem.W.codeIn K cd26 "marks_of_part" = true)
    (k26 : PySem.W.keepIn K (.ref f26) = true)
    (a27 : PySem.W.nsIn K mainGlobals "_law_numbers" = some (some (.ref f27)))
    (l27 : K.lookup f27 = some ⟨oc27, od27, .func (PySem.W.fnOf "_law_numbers" "_law_numbers" (defArgs s_law_numbers) (defBody s_law_numbers) (defScope s_law_numbers) .none kV27 dc27 pm27 an27 cd27 ct27), sl27⟩)
    (c27 : PySem.W.codeIn K cd27 "_law_numbers" = true)
    (k27 : PySem.W.keepIn K (.ref f27) = true)
    (a28 : PySem.W.nsIn K mainGlobals "_law_parts" = some (some (.ref f28)))
    (l28 : K.lookup f28 = some ⟨oc28, od28, .func (PySem.W.fnOf "_law_parts" "_law_parts" (defArgs s_law_parts) (defBody s_law_parts) (defScope s_law_parts) .none kV28 dc28 pm28 an28 cd28 ct28), sl28⟩)
    (c28 : PySem.W.codeIn K cd28 "_law_parts" = true)
    (k28 : PySem.W.keepIn K (.ref f28) = true)
    (a29 : PySem.W.nsIn K mainGlobals "_law_ends" = some (some (.ref f29)))
    (l29 : K.lookup f29 = some ⟨oc29, od29, .func (PySem.W.fnOf "_law_ends" "_law_ends" (defArgs s_law_ends) (defBody s_law_ends) (defScope s_law_ends) .none kV29 dc29 pm29 an29 cd29 ct29), sl29⟩)
    (c29 : PySem.W.codeIn K cd29 "_law_ends" = true)
    (k29 : PySem.W.keepIn K (.ref f29) = true)
    (a30 : PySem.W.nsIn K mainGlobals "_law_led" = some (some (.ref f30)))
    (l30 : K.lookup f30 = some ⟨oc30, od30, .func (PySem.W.fnOf "_law_led" "_law_led" (defArgs s_law_led) (defBody s_law_led) (defScope s_law_led) .none kV30 dc30 pm30 an30 cd30 ct30), sl30⟩)
    (c30 : PySem.W.codeIn K cd30 "_law_led" = true)
    (k30 : PySem.W.keepIn K (.ref f30) = true)
    (a31 : PySem.W.nsIn K mainGlobals "law" = some (some (.ref f31)))
    (l31 : K.lookup f31 = some ⟨oc31, od31, .func (PySem.W.fnOf "law" "law" (defArgs slaw) (defBody slaw) (defScope slaw) .none kV31 dc31 pm31 an31 cd31 ct31), sl31⟩)
    (c31 : PySem.W.codeIn K cd31 "law" = true)
    (k31 : PySem.W.keepIn K (.ref f31) = true)
    (gCA : PySem.W.nsIn K mainGlobals "Asking" = some (some (.ref CA)))
    (gCS : PySem.W.nsIn K mainGlobals "Step" = some (some (.ref CS)))
    (gC : PySem.W.nsIn K mainGlobals "Running" = some (some (.ref C)))
    (ma1 : PySem.W.findIn K (.ref CA) "__init__" = some (some (.ref m1)))
    (mi1 : PySem.W.isFn K (.ref m1) = true)
    (ml1 : K.lookup m1 = some ⟨moc1, mod1, .func (PySem.W.fnOf "__init__" "Asking.__init__" (defArgs sAskI) (defBody sAskI) (defScope sAskI) .none mkV1 mdc1 mpm1 man1 mcd1 mct1), msl1⟩)
    (mc1 : PySem.W.codeIn K mcd1 "Asking.__init__" = true)
    (mk1 : PySem.W.keepIn K (.ref m1) = true)
    (ma2 : PySem.W.findIn K (.ref CS) "__init__" = some (some (.ref m2)))
    (mi2 : PySem.W.isFn K (.ref m2) = true)
    (ml2 : K.lookup m2 = some ⟨moc2, mod2, .func (PySem.W.fnOf "__init__" "Step.__init__" (defArgs sStepI) (defBody sStepI) (defScope sStepI) .none mkV2 mdc2 mpm2 man2 mcd2 mct2), msl2⟩)
    (mc2 : PySem.W.codeIn K mcd2 "Step.__init__" = true)
    (mk2 : PySem.W.keepIn K (.ref m2) = true)
    (ma3 : PySem.W.findIn K (.ref C) "__init__" = some (some (.ref m3)))
    (mi3 : PySem.W.isFn K (.ref m3) = true)
    (ml3 : K.lookup m3 = some ⟨moc3, mod3, .func (PySem.W.fnOf "__init__" "Running.__init__" (defArgs sRun0) (defBody sRun0) (defScope sRun0) .none mkV3 mdc3 mpm3 man3 mcd3 mct3), msl3⟩)
    (mc3 : PySem.W.codeIn K mcd3 "Running.__init__" = true)
    (mk3 : PySem.W.keepIn K (.ref m3) = true)
    (ma4 : PySem.W.findIn K (.ref C) "go" = some (some (.ref m4)))
    (mi4 : PySem.W.isFn K (.ref m4) = true)
    (ml4 : K.lookup m4 = some ⟨moc4, mod4, .func (PySem.W.fnOf "go" "Running.go" (defArgs sGo) (defBody sGo) (defScope sGo) .none mkV4 mdc4 mpm4 man4 mcd4 mct4), msl4⟩)
    (mc4 : PySem.W.codeIn K mcd4 "Running.go" = true)
    (mk4 : PySem.W.keepIn K (.ref m4) = true)
    (ma5 : PySem.W.findIn K (.ref C) "ask" = some (some (.ref m5)))
    (mi5 : PySem.W.isFn K (.ref m5) = true)
    (ml5 : K.lookup m5 = some ⟨moc5, mod5, .func (PySem.W.fnOf "ask" "Running.ask" (defArgs sAskM) (defBody sAskM) (defScope sAskM) .none mkV5 mdc5 mpm5 man5 mcd5 mct5), msl5⟩)
    (mc5 : PySem.W.codeIn K mcd5 "Running.ask" = true)
    (mk5 : PySem.W.keepIn K (.ref m5) = true)
    (ma6 : PySem.W.findIn K (.ref C) "begin" = some (some (.ref m6)))
    (mi6 : PySem.W.isFn K (.ref m6) = true)
    (ml6 : K.lookup m6 = some ⟨moc6, mod6, .func (PySem.W.fnOf "begin" "Running.begin" (defArgs sBeg) (defBody sBeg) (defScope sBeg) .none mkV6 mdc6 mpm6 man6 mcd6 mct6), msl6⟩)
    (mc6 : PySem.W.codeIn K mcd6 "Running.begin" = true)
    (mk6 : PySem.W.keepIn K (.ref m6) = true)
    (ma7 : PySem.W.findIn K (.ref C) "finish" = some (some (.ref m7)))
    (mi7 : PySem.W.isFn K (.ref m7) = true)
    (ml7 : K.lookup m7 = some ⟨moc7, mod7, .func (PySem.W.fnOf "finish" "Running.finish" (defArgs sFin) (defBody sFin) (defScope sFin) .none mkV7 mdc7 mpm7 man7 mcd7 mct7), msl7⟩)
    (mc7 : PySem.W.codeIn K mcd7 "Running.finish" = true)
    (mk7 : PySem.W.keepIn K (.ref m7) = true)
    (ma8 : PySem.W.findIn K (.ref C) "combine" = some (some (.ref m8)))
    (mi8 : PySem.W.isFn K (.ref m8) = true)
    (ml8 : K.lookup m8 = some ⟨moc8, mod8, .func (PySem.W.fnOf "combine" "Running.combine" (defArgs sComb) (defBody sComb) (defScope sComb) .none mkV8 mdc8 mpm8 man8 mcd8 mct8), msl8⟩)
    (mc8 : PySem.W.codeIn K mcd8 "Running.combine" = true)
    (mk8 : PySem.W.keepIn K (.ref m8) = true)
    (ma9 : PySem.W.findIn K (.ref C) "let" = some (some (.ref m9)))
    (mi9 : PySem.W.isFn K (.ref m9) = true)
    (ml9 : K.lookup m9 = some ⟨moc9, mod9, .func (PySem.W.fnOf "let" "Running.let" (defArgs sLet) (defBody sLet) (defScope sLet) .none mkV9 mdc9 mpm9 man9 mcd9 mct9), msl9⟩)
    (mc9 : PySem.W.codeIn K mcd9 "Running.let" = true)
    (mk9 : PySem.W.keepIn K (.ref m9) = true)
    (ma10 : PySem.W.findIn K (.ref C) "choose" = some (some (.ref m10)))
    (mi10 : PySem.W.isFn K (.ref m10) = true)
    (ml10 : K.lookup m10 = some ⟨moc10, mod10, .func (PySem.W.fnOf "choose" "Running.choose" (defArgs sCho) (defBody sCho) (defScope sCho) .none mkV10 mdc10 mpm10 man10 mcd10 mct10), msl10⟩)
    (mc10 : PySem.W.codeIn K mcd10 "Running.choose" = true)
    (mk10 : PySem.W.keepIn K (.ref m10) = true)
    (ma11 : PySem.W.findIn K (.ref C) "ask_from" = some (some (.ref m11)))
    (mi11 : PySem.W.isFn K (.ref m11) = true)
    (ml11 : K.lookup m11 = some ⟨moc11, mod11, .func (PySem.W.fnOf "ask_from" "Running.ask_from" (defArgs sFrom) (defBody sFrom) (defScope sFrom) .none mkV11 mdc11 mpm11 man11 mcd11 mct11), msl11⟩)
    (mc11 : PySem.W.codeIn K mcd11 "Running.ask_from" = true)
    (mk11 : PySem.W.keepIn K (.ref m11) = true)
    (pgCA : PySem.W.plainGet K CA Str.empty = true)
    (hdCA : PySem.W.hasDictIn K CA = true)
    (poCA : PySem.W.plainOver K CA = true)
    (saCA : PySem.W.findIn K (.ref CA) "__setattr__" = some (some (.builtin "object.__setattr__")))
    (msCA : PySem.W.makesIn K CA = true)
    (kcCA : PySem.W.keepIn K (.ref CA) = true)
    (nCAwords : PySem.W.findIn K (.ref CA) "words" = some none)
    (nCAwaiting : PySem.W.findIn K (.ref CA) "waiting" = some none)
    (pgCS : PySem.W.plainGet K CS Str.empty = true)
    (hdCS : PySem.W.hasDictIn K CS = true)
    (poCS : PySem.W.plainOver K CS = true)
    (saCS : PySem.W.findIn K (.ref CS) "__setattr__" = some (some (.builtin "object.__setattr__")))
    (msCS : PySem.W.makesIn K CS = true)
    (kcCS : PySem.W.keepIn K (.ref CS) = true)
    (nCSterm : PySem.W.findIn K (.ref CS) "term" = some none)
    (nCSasking : PySem.W.findIn K (.ref CS) "asking" = some none)
    (nCSled : PySem.W.findIn K (.ref CS) "led" = some none)
    (nCSlast : PySem.W.findIn K (.ref CS) "last" = some none)
    (nCSbegun : PySem.W.findIn K (.ref CS) "begun" = some none)
    (pgC : PySem.W.plainGet K C Str.empty = true)
    (hdC : PySem.W.hasDictIn K C = true)
    (poC : PySem.W.plainOver K C = true)
    (saC : PySem.W.findIn K (.ref C) "__setattr__" = some (some (.builtin "object.__setattr__")))
    (msC : PySem.W.makesIn K C = true)
    (kcC : PySem.W.keepIn K (.ref C) = true)
    (nCerrands : PySem.W.findIn K (.ref C) "errands" = some none)
    (nCmost : PySem.W.findIn K (.ref C) "most" = some none)
    (nCtrail : PySem.W.findIn K (.ref C) "trail" = some none)
    (nCend : PySem.W.findIn K (.ref C) "end" = some none)
    (nCdeepest : PySem.W.findIn K (.ref C) "deepest" = some none)
    (nCleft : PySem.W.findIn K (.ref C) "left" = some none)
    (nCasked : PySem.W.findIn K (.ref C) "asked" = some none)
    (nCsteps : PySem.W.findIn K (.ref C) "steps" = some none)
    (nCgot : PySem.W.findIn K (.ref C) "got" = some none)
    (gCN : PySem.W.nsIn K mainGlobals "NoAsking" = some (some (.ref CN)))
    (xCN : PySem.W.excIn K CN [.type "ValueError", .type "Exception", .type "BaseException", .type "object"] "ValueError.__new__" = true)
    (kCN : PySem.W.keepIn K (.ref CN) = true)
    (bCN : PySem.W.subIn K (.ref CN) (.type "BaseException") = some true)
    (tCN : PySem.W.typeIn K (.ref CN) = some (.type "type"))
    (gCM : PySem.W.nsIn K mainGlobals "NoMost" = some (some (.ref CM)))
    (xCM : PySem.W.excIn K CM [.type "ValueError", .type "Exception", .type "BaseException", .type "object"] "ValueError.__new__" = true)
    (kCM : PySem.W.keepIn K (.ref CM) = true)
    (bCM : PySem.W.subIn K (.ref CM) (.type "BaseException") = some true)
    (tCM : PySem.W.typeIn K (.ref CM) = some (.type "type"))
    (z_len : PySem.W.nsIn K mainGlobals "len" = some none)
    (z_isinstance : PySem.W.nsIn K mainGlobals "isinstance" = some none)
    (z_int : PySem.W.nsIn K mainGlobals "int" = some none)
    (z_tuple : PySem.W.nsIn K mainGlobals "tuple" = some none)
    (z_list : PySem.W.nsIn K mainGlobals "list" = some none)
    (z_str : PySem.W.nsIn K mainGlobals "str" = some none)
    (z_bool : PySem.W.nsIn K mainGlobals "bool" = some none)
    (z_max : PySem.W.nsIn K mainGlobals "max" = some none)
    (z_all : PySem.W.nsIn K mainGlobals "all" = some none)
    (z_dict : PySem.W.nsIn K mainGlobals "dict" = some none)
    (z_range : PySem.W.nsIn K mainGlobals "range" = some none)
    (z_enumerate : PySem.W.nsIn K mainGlobals "enumerate" = some none)
    (z_reversed : PySem.W.nsIn K mainGlobals "reversed" = some none)
    (z_zip : PySem.W.nsIn K mainGlobals "zip" = some none)
    {tNUMBERS : Tok}
    (qNUMBERS : PySem.W.nsIn K mainGlobals "NUMBERS" = some (some (.int 1000 tNUMBERS)))
    {tMOST_ASKS : Tok}
    (qMOST_ASKS : PySem.W.nsIn K mainGlobals "MOST_ASKS" = some (some (.int 3000 tMOST_ASKS)))
    : ∃ fd : FuncData, (∀ (s : Shared) (v : Value), BindsTo s fd ⟨[v], []⟩ [("script", v)]) ∧ ∀ base : Heap, K.In base → base.Ns mainGlobals mg → FnOk l.prog w K mg base CX0 42 fa fd ["script"] (spLaw K) := by
  have e := hfa.symm.trans (PySem.W.mg_of X G a31)
  cases e
  have T : Txt K mg := ⟨PySem.W.mg_none_of X G z_len, PySem.W.mg_none_of X G z_isinstance, PySem.W.mg_none_of X G z_int, PySem.W.mg_none_of X G z_tuple, PySem.W.mg_none_of X G z_list, PySem.W.mg_none_of X G z_str, PySem.W.mg_none_of X G z_bool, PySem.W.mg_none_of X G z_max, PySem.W.mg_none_of X G z_all, PySem.W.mg_none_of X G z_dict, PySem.W.mg_none_of X G z_range, PySem.W.mg_none_of X G z_enumerate, PySem.W.mg_none_of X G z_reversed⟩
  have TX : TxR K mg CA CS C := {
    clA := ⟨pgCA, hdCA, poCA, saCA⟩, aWords := nCAwords, aWaiting := nCAwaiting, clS := ⟨pgCS, hdCS, poCS, saCS⟩, sTerm := nCSterm, sAsking := nCSasking, sLed := nCSled, sLast := nCSlast, sBegun := nCSbegun, clR := ⟨pgC, hdC, poC, saC⟩, rErrands := nCerrands, rMost := nCmost, rTrail := nCtrail, rEnd := nCend, rDeep := nCdeepest, rLeft := nCleft, rAsked := nCasked, rSteps := nCsteps, rGot := nCgot, mgA := PySem.W.mg_of X G gCA, mgS := PySem.W.mg_of X G gCS, mgR := PySem.W.mg_of X G gC, num := ⟨_, PySem.W.mg_of X G qNUMBERS⟩, zip_ := PySem.W.mg_none_of X G z_zip }
  have XCN : XcT K mg "NoAsking" CN := ⟨PySem.W.mg_of X G gCN, xCN, kCN, bCN, tCN⟩
  have XCM : XcT K mg "NoMost" CM := ⟨PySem.W.mg_of X G gCM, xCM, kCM, bCM, tCM⟩
  have F1 := fun_mk (st := sis_whole) l1 c1 k1
  have R1 : Ref K mg "is_whole" f1 _ ["thing"] := ⟨PySem.W.mg_of X G a1, k1, F1.binds (ps := ["thing"]) fun _ _ _ _ _ _ us hl => match us, hl with | [_], _ => rfl⟩
  have F2 := fun_mk (st := sparts_of) l2 c2 k2
  have R2 : Ref K mg "parts_of" f2 _ ["term"] := ⟨PySem.W.mg_of X G a2, k2, F2.binds (ps := ["term"]) fun _ _ _ _ _ _ us hl => match us, hl with | [_], _ => rfl⟩
  have F3 := fun_mk (st := sfirst) l3 c3 k3
  have R3 : Ref K mg "first_parts" f3 _ ["term"] := ⟨PySem.W.mg_of X G a3, k3, F3.binds (ps := ["term"]) fun _ _ _ _ _ _ us hl => match us, hl with | [_], _ => rfl⟩
  have F4 := fun_mk (st := serrand_named) l4 c4 k4
  have R4 : Ref K mg "errand_named" f4 _ ["book", "f"] := ⟨PySem.W.mg_of X G a4, k4, F4.binds (ps := ["book", "f"]) fun _ _ _ _ _ _ us hl => match us, hl with | [_, _], _ => rfl⟩
  have F5 := fun_mk (st := sneed_errand) l5 c5 k5
  have R5 : Ref K mg "need_errand" f5 _ ["book", "f"] := ⟨PySem.W.mg_of X G a5, k5, F5.binds (ps := ["book", "f"]) fun _ _ _ _ _ _ us hl => match us, hl with | [_, _], _ => rfl⟩
  have F6 := fun_mk (st := sneed_asking) l6 c6 k6
  have R6 : Ref K mg "need_asking" f6 _ ["book", "f", "numbers"] := ⟨PySem.W.mg_of X G a6, k6, F6.binds (ps := ["book", "f", "numbers"]) fun _ _ _ _ _ _ us hl => match us, hl with | [_, _, _], _ => rfl⟩
  have F7 := fun_mk (st := sneed_most) l7 c7 k7
  have R7 : Ref K mg "need_most" f7 _ ["most", "least", "greatest"] := ⟨PySem.W.mg_of X G a7, k7, F7.binds (ps := ["most", "least", "greatest"]) fun _ _ _ _ _ _ us hl => match us, hl with | [_, _, _], _ => rfl⟩
  have F8 := fun_mk (st := slast_taken) l8 c8 k8
  have R8 : Ref K mg "last_taken" f8 _ ["got", "many"] := ⟨PySem.W.mg_of X G a8, k8, F8.binds (ps := ["got", "many"]) fun _ _ _ _ _ _ us hl => match us, hl with | [_, _], _ => rfl⟩
  have F9 := fun_mk (st := scombined) l9 c9 k9
  have R9 : Ref K mg "combined" f9 _ ["head", "first", "second"] := ⟨PySem.W.mg_of X G a9, k9, F9.binds (ps := ["head", "first", "second"]) fun _ _ _ _ _ _ us hl => match us, hl with | [_, _, _], _ => rfl⟩
  have F10 := fun_mk (st := srun) l10 c10 k10
  have R10 : Ref K mg "run" f10 _ ["book", "f", "numbers", "most"] := ⟨PySem.W.mg_of X G a10, k10, F10.binds (ps := ["book", "f", "numbers", "most"]) fun _ _ _ _ _ _ us hl => match us, hl with | [_, _, _, _], _ => rfl⟩
  have F11 := fun_mk (st := s_law_cell_at) l11 c11 k11
  have R11 : Ref K mg "_law_cell_at" f11 _ ["script", "k"] := ⟨PySem.W.mg_of X G a11, k11, F11.binds (ps := ["script", "k"]) fun _ _ _ _ _ _ us hl => match us, hl with | [_, _], _ => rfl⟩
  have F12 := fun_mk (st := s_law_tape) l12 c12 k12
  have R12 : Ref K mg "_law_tape" f12 _ ["script", "k"] := ⟨PySem.W.mg_of X G a12, k12, F12.binds (ps := ["script", "k"]) fun _ _ _ _ _ _ us hl => match us, hl with | [_, _], _ => rfl⟩
  have F13 := fun_mk (st := s_law_digit) l13 c13 k13
  have R13 : Ref K mg "_law_digit" f13 _ ["tape", "many"] := ⟨PySem.W.mg_of X G a13, k13, F13.binds (ps := ["tape", "many"]) fun _ _ _ _ _ _ us hl => match us, hl with | [_, _], _ => rfl⟩
  have F14 := fun_mk (st := s_law_words) l14 c14 k14
  have R14 : Ref K mg "_law_words" f14 _ ["tape", "many"] := ⟨PySem.W.mg_of X G a14, k14, F14.binds (ps := ["tape", "many"]) fun _ _ _ _ _ _ us hl => match us, hl with | [_, _], _ => rfl⟩
  have F15 := fun_mk (st := s_law_number) l15 c15 k15
  have R15 : Ref K mg "_law_number" f15 _ ["tape"] := ⟨PySem.W.mg_of X G a15, k15, F15.binds (ps := ["tape"]) fun _ _ _ _ _ _ us hl => match us, hl with | [_], _ => rfl⟩
  have F16 := fun_mk (st := s_law_leaf) l16 c16 k16
  have R16 : Ref K mg "_law_leaf" f16 _ ["tape", "known", "around"] := ⟨PySem.W.mg_of X G a16, k16, F16.binds (ps := ["tape", "known", "around"]) fun _ _ _ _ _ _ us hl => match us, hl with | [_, _, _], _ => rfl⟩
  have F17 := fun_mk (st := s_law_shares) l17 c17 k17
  have R17 : Ref K mg "_law_shares" f17 _ ["tape", "room", "many"] := ⟨PySem.W.mg_of X G a17, k17, F17.binds (ps := ["tape", "room", "many"]) fun _ _ _ _ _ _ us hl => match us, hl with | [_, _, _], _ => rfl⟩
  have F18 := fun_mk (st := s_law_less_one) l18 c18 k18
  have R18 : Ref K mg "_law_less_one" f18 _ ["around"] := ⟨PySem.W.mg_of X G a18, k18, F18.binds (ps := ["around"]) fun _ _ _ _ _ _ us hl => match us, hl with | [_], _ => rfl⟩
  have F19 := fun_mk (st := s_law_ask) l19 c19 k19
  have R19 : Ref K mg "_law_ask" f19 _ ["tape", "known", "around", "room", "deep"] := ⟨PySem.W.mg_of X G a19, k19, F19.binds (ps := ["tape", "known", "around", "room", "deep"]) fun _ _ _ _ _ _ us hl => match us, hl with | [_, _, _, _, _], _ => rfl⟩
  have F20 := fun_mk (st := s_law_term) l20 c20 k20
  have R20 : Ref K mg "_law_term" f20 _ ["tape", "known", "around", "room", "deep"] := ⟨PySem.W.mg_of X G a20, k20, F20.binds (ps := ["tape", "known", "around", "room", "deep"]) fun _ _ _ _ _ _ us hl => match us, hl with | [_, _, _, _, _], _ => rfl⟩
  have F21 := fun_mk (st := s_law_body) l21 c21 k21
  have R21 : Ref K mg "_law_body" f21 _ ["tape", "known", "names", "room"] := ⟨PySem.W.mg_of X G a21, k21, F21.binds (ps := ["tape", "known", "names", "room"]) fun _ _ _ _ _ _ us hl => match us, hl with | [_, _, _, _], _ => rfl⟩
  have F22 := fun_mk (st := s_law_book) l22 c22 k22
  have R22 : Ref K mg "_law_book" f22 _ ["script", "start"] := ⟨PySem.W.mg_of X G a22, k22, F22.binds (ps := ["script", "start"]) fun _ _ _ _ _ _ us hl => match us, hl with | [_, _], _ => rfl⟩
  have F23 := fun_mk (st := slast_places) l23 c23 k23
  have R23 : Ref K mg "last_places" f23 _ ["book"] := ⟨PySem.W.mg_of X G a23, k23, F23.binds (ps := ["book"]) fun _ _ _ _ _ _ us hl => match us, hl with | [_], _ => rfl⟩
  have F24 := fun_mk (st := sled_places) l24 c24 k24
  have R24 : Ref K mg "led_places" f24 _ ["book"] := ⟨PySem.W.mg_of X G a24, k24, F24.binds (ps := ["book"]) fun _ _ _ _ _ _ us hl => match us, hl with | [_], _ => rfl⟩
  have F25 := fun_mk (st := smarked_places) l25 c25 k25
  have R25 : Ref K mg "marked_places" f25 _ ["book"] := ⟨PySem.W.mg_of X G a25, k25, F25.binds (ps := ["book"]) fun _ _ _ _ _ _ us hl => match us, hl with | [_], _ => rfl⟩
  have F26 := fun_mk (st := smarks_of_part) l26 c26 k26
  have R26 : Ref K mg "marks_of_part" f26 _ ["head", "k", "is_led", "is_last"] := ⟨PySem.W.mg_of X G a26, k26, F26.binds (ps := ["head", "k", "is_led", "is_last"]) fun _ _ _ _ _ _ us hl => match us, hl with | [_, _, _, _], _ => rfl⟩
  have F27 := fun_mk (st := s_law_numbers) l27 c27 k27
  have R27 : Ref K mg "_law_numbers" f27 _ ["tape", "many"] := ⟨PySem.W.mg_of X G a27, k27, F27.binds (ps := ["tape", "many"]) fun _ _ _ _ _ _ us hl => match us, hl with | [_, _], _ => rfl⟩
  have F28 := fun_mk (st := s_law_parts) l28 c28 k28
  have R28 : Ref K mg "_law_parts" f28 _ ["term"] := ⟨PySem.W.mg_of X G a28, k28, F28.binds (ps := ["term"]) fun _ _ _ _ _ _ us hl => match us, hl with | [_], _ => rfl⟩
  have F29 := fun_mk (st := s_law_ends) l29 c29 k29
  have R29 : Ref K mg "_law_ends" f29 _ ["term", "place"] := ⟨PySem.W.mg_of X G a29, k29, F29.binds (ps := ["term", "place"]) fun _ _ _ _ _ _ us hl => match us, hl with | [_, _], _ => rfl⟩
  have F30 := fun_mk (st := s_law_led) l30 c30 k30
  have R30 : Ref K mg "_law_led" f30 _ ["term", "place", "led"] := ⟨PySem.W.mg_of X G a30, k30, F30.binds (ps := ["term", "place", "led"]) fun _ _ _ _ _ _ us hl => match us, hl with | [_, _, _], _ => rfl⟩
  have F31 := fun_mk (st := slaw) l31 c31 k31
  have MF1 := fun_mk (st := sAskI) ml1 mc1 mk1
  have Mb1 := MF1.binds (ps := ["self", "words", "waiting"]) fun _ _ _ _ _ _ us hl => match us, hl with | [_, _, _], _ => rfl
  have MF2 := fun_mk (st := sStepI) ml2 mc2 mk2
  have Mb2 := MF2.binds (ps := ["self", "term", "asking", "led", "last"]) fun _ _ _ _ _ _ us hl => match us, hl with | [_, _, _, _, _], _ => rfl
  have MF3 := fun_mk (st := sRun0) ml3 mc3 mk3
  have Mb3 := MF3.binds (ps := ["self", "book", "most"]) fun _ _ _ _ _ _ us hl => match us, hl with | [_, _, _], _ => rfl
  have MF4 := fun_mk (st := sGo) ml4 mc4 mk4
  have Mb4 := MF4.binds (ps := ["self"]) fun _ _ _ _ _ _ us hl => match us, hl with | [_], _ => rfl
  have MF5 := fun_mk (st := sAskM) ml5 mc5 mk5
  have Mb5 := MF5.binds (ps := ["self", "f", "numbers", "waiting"]) fun _ _ _ _ _ _ us hl => match us, hl with | [_, _, _, _], _ => rfl
  have MF6 := fun_mk (st := sBeg) ml6 mc6 mk6
  have Mb6 := MF6.binds (ps := ["self", "step"]) fun _ _ _ _ _ _ us hl => match us, hl with | [_, _], _ => rfl
  have MF7 := fun_mk (st := sFin) ml7 mc7 mk7
  have Mb7 := MF7.binds (ps := ["self", "step"]) fun _ _ _ _ _ _ us hl => match us, hl with | [_, _], _ => rfl
  have MF8 := fun_mk (st := sComb) ml8 mc8 mk8
  have Mb8 := MF8.binds (ps := ["self", "head"]) fun _ _ _ _ _ _ us hl => match us, hl with | [_, _], _ => rfl
  have MF9 := fun_mk (st := sLet) ml9 mc9 mk9
  have Mb9 := MF9.binds (ps := ["self", "step"]) fun _ _ _ _ _ _ us hl => match us, hl with | [_, _], _ => rfl
  have MF10 := fun_mk (st := sCho) ml10 mc10 mk10
  have Mb10 := MF10.binds (ps := ["self", "step"]) fun _ _ _ _ _ _ us hl => match us, hl with | [_, _], _ => rfl
  have MF11 := fun_mk (st := sFrom) ml11 mc11 mk11
  have Mb11 := MF11.binds (ps := ["self", "step"]) fun _ _ _ _ _ _ us hl => match us, hl with | [_, _], _ => rfl
  refine ⟨PySem.W.fnOf "law" "law" (defArgs slaw) (defBody slaw) (defScope slaw) .none kV31 dc31 pm31 an31 cd31 ct31, fun s v => .of_eq rfl, fun base _ _ => ?_⟩
  have Gpo := ok_parts (P := l.prog) (w := w) (mg := mg) (base := base) F2
  have Gfp := ok_first (P := l.prog) (w := w) (mg := mg) (base := base) F3 Gpo R2
  have Gco := ok_combined (P := l.prog) (w := w) (mg := mg) (base := base) TX F9
  have MA : Mk K CA m1 := ⟨msCA, ma1, mi1, kcCA⟩
  have MS : Mk K CS m2 := ⟨msCS, ma2, mi2, kcCS⟩
  have MR : Mk K C m3 := ⟨msC, ma3, mi3, kcC⟩
  have Gr0 := ok_run0 (P := l.prog) (w := w) (mg := mg) (base := base) TX MF3
  have Gak := ok_askM (P := l.prog) (w := w) (mg := mg) (base := base) T TX MF5 MA MF1 Mb1 MS MF2 Mb2
  have Gle2 := ok_let (P := l.prog) (w := w) (mg := mg) (base := base) TX MF9 MS MF2 Mb2
  have Gch := ok_cho (P := l.prog) (w := w) (mg := mg) (base := base) TX MF10 MS MF2 Mb2
  have Gla := ok_last (P := l.prog) (w := w) (mg := mg) (base := base) T F8
  have Gaf := ok_from (P := l.prog) (w := w) (mg := mg) (base := base) T TX MF11 Gak Mb5 ⟨ma5, mi5, mk5⟩ Gla R8
  have Gcb := ok_comb (P := l.prog) (w := w) (mg := mg) (base := base) TX MF8 Gco R9
  have Gbg := ok_beg (P := l.prog) (w := w) (mg := mg) (base := base) T TX MF6 Gfp R3 MS MF2 Mb2
  have Gfi := ok_fin (P := l.prog) (w := w) (mg := mg) (base := base) TX MF7 Gcb Mb8 ⟨ma8, mi8, mk8⟩ Gle2 Mb9 ⟨ma9, mi9, mk9⟩ Gch Mb10 ⟨ma10, mi10, mk10⟩ Gaf Mb11 ⟨ma11, mi11, mk11⟩
  have Ggo := ok_go (P := l.prog) (w := w) (mg := mg) (base := base) TX MF4 Gfi Mb7 ⟨ma7, mi7, mk7⟩ Gbg Mb6 ⟨ma6, mi6, mk6⟩
  have Giw := ok_whole (P := l.prog) (w := w) (mg := mg) (base := base) T F1
  have Gnm := ok_nam (P := l.prog) (w := w) (mg := mg) (base := base) F4
  have Gne := ok_needE (P := l.prog) (w := w) (mg := mg) (base := base) XCN F5 Gnm R4
  have Gna := ok_need (P := l.prog) (w := w) (mg := mg) (base := base) T XCN F6 Gne R5 Gnm R4 Giw R1
  have Gnm2 := ok_most (P := l.prog) (w := w) (mg := mg) (base := base) XCM F7 Giw R1
  have Grn := ok_run (P := l.prog) (w := w) (mg := mg) (base := base) TX ⟨_, PySem.W.mg_of X G qMOST_ASKS⟩ F10 Gna R6 Gnm2 R7 MR Gr0 Mb3 Gak Mb5 ⟨ma5, mi5, mk5⟩ Ggo Mb4 ⟨ma4, mi4, mk4⟩
  have Gce := ok_cell (P := l.prog) (w := w) (mg := mg) (base := base) T F11
  have Gtp := ok_tape (P := l.prog) (w := w) (mg := mg) (base := base) T F12 Gce R11
  have Gdg := ok_dig (P := l.prog) (w := w) (mg := mg) (base := base) F13
  have Gwo := ok_words (P := l.prog) (w := w) (mg := mg) (base := base) T F14 Gdg R13
  have Gnu := ok_num (P := l.prog) (w := w) (mg := mg) (base := base) F15 Gdg R13
  have Gle := ok_leaf (P := l.prog) (w := w) (mg := mg) (base := base) T F16 Gdg R13 Gnu R15
  have Gsh := ok_shares (P := l.prog) (w := w) (mg := mg) (base := base) T F17 Gdg R13
  have Glo := ok_less (P := l.prog) (w := w) (mg := mg) (base := base) F18
  have Gte := all_term (P := l.prog) (w := w) (mg := mg) (base := base) T F20 F19 Gdg R13 Gle R16 Gsh R17 Glo R18 R20 R19 12
  have Gbo := ok_body (P := l.prog) (w := w) (mg := mg) (base := base) T F21 Gdg R13 Gsh R17 Gte R20
  have Gbk := ok_book (P := l.prog) (w := w) (mg := mg) (base := base) T F22 Gdg R13 Gtp R12 Gwo R14 Gbo R21
  have Gns := ok_nums (P := l.prog) (w := w) (mg := mg) (base := base) T F27 Gdg R13
  have Gmp := ok_mop (P := l.prog) (w := w) (mg := mg) (base := base) F26
  have Gmk := ok_mkd (P := l.prog) (w := w) (mg := mg) (base := base) T F25 Gpo R2 Gmp R26
  have Gla := ok_LastP (P := l.prog) (w := w) (mg := mg) (base := base) F23 Gmk R25
  have Gld := ok_LedP (P := l.prog) (w := w) (mg := mg) (base := base) F24 Gmk R25
  have Glp := ok_Lparts (P := l.prog) (w := w) (mg := mg) (base := base) T F28
  have Gen := all_ends (P := l.prog) (w := w) (mg := mg) (base := base) T F29 R29 40
  have Gll := all_led (P := l.prog) (w := w) (mg := mg) (base := base) T F30 R30 Glp R28 40
  exact ok_law T F31 ⟨_, _, Gbk, R22⟩ ⟨_, _, Gtp, R12⟩ ⟨_, _, Gen, R29⟩ ⟨_, _, Gns, R27⟩ ⟨_, _, Grn, R10⟩ ⟨_, _, Gll, R30⟩ ⟨_, _, Gla, R23⟩ ⟨_, _, Gld, R24⟩
theorem walk {l : PySem.W.OpenLaw} {q : Program} {loose : List Str} {XP : (Str → Option Value) → Heap → Prop} {YP : World → Heap → Prop} {d : DefRec} {K : Params → PySem.W.Frag} (hn : l.most = some 63) (hdf : d.params.defaults = [])
    (hY : ∀ (w : World) (h : Heap), YP w h → (K w.params).In h)
    (F : ∀ (w : World) (mg : Str → Option Value) (fa : Addr) (h : Heap), (K w.params).In h → h.Ns mainGlobals mg → mg d.name = some (.ref fa) →
      ∃ fd : FuncData, (∀ (s : Shared) (u : Value), BindsTo s fd ⟨[u], []⟩ [("script", u)]) ∧ ∀ base : Heap, (K w.params).In base → base.Ns mainGlobals mg → FnOk l.prog w (K w.params) mg base CX0 42 fa fd ["script"] (spLaw (K w.params))) :
    PySem.W.WalkO q loose XP YP l.row.toRowW d [] (fun f vs => PySem.call f vs) :=
  L2.walk_of (n := 63) (k := 42) (x := "script") (CX := fun _ => CX0) (sp := fun w => spLaw (K w.params)) hn (by decide) hdf ⟨rfl, by decide, by decide⟩ hY F (fun _ _ a ns hl _ hS => ⟨a, ns, rfl, hS, hl, fun _ => rfl⟩) fun _ _ _ _ _ z => z
end KB

open PySem PySem.W PyProof.Rows in
set_option maxRecDepth 100000 in
set_option maxHeartbeats 0 in
theorem PySem.Challenge.cw_whatnext_k08_last_and_led_on_holds : PySem.Challenge.rw_whatnext_k08_last_and_led_on.Holds := by
  w_on; o_law; k_head; (case hw => w_witness2)
  k_fill
  refine KB.walk (l := PySem.Challenge.rw_whatnext_k08_last_and_led_on) rfl rfl (fun w h Y => PySem.W.kIn_of Y) ?F
  case F =>
    intro w mg fa h KX G hmg
    refine' KB.all_mk KX G hmg ?a1 ?l1 ?c1 ?k1 ?a2 ?l2 ?c2 ?k2 ?a3 ?l3 ?c3 ?k3 ?a4 ?l4 ?c4 ?k4 ?a5 ?l5 ?c5 ?k5 ?a6 ?l6 ?c6 ?k6 ?a7 ?l7 ?c7 ?k7 ?a8 ?l8 ?c8 ?k8 ?a9 ?l9 ?c9 ?k9 ?a10 ?l10 ?c10 ?k10 ?a11 ?l11 ?c11 ?k11 ?a12 ?l12 ?c12 ?k12 ?a13 ?l13 ?c13 ?k13 ?a14 ?l14 ?c14 ?k14 ?a15 ?l15 ?c15 ?k15 ?a16 ?l16 ?c16 ?k16 ?a17 ?l17 ?c17 ?k17 ?a18 ?l18 ?c18 ?k18 ?a19 ?l19 ?c19 ?k19 ?a20 ?l20 ?c20 ?k20 ?a21 ?l21 ?c21 ?k21 ?a22 ?l22 ?c22 ?k22 ?a23 ?l23 ?c23 ?k23 ?a24 ?l24 ?c24 ?k24 ?a25 ?l25 ?c25 ?k25 ?a26 ?l26 ?c26 ?k26 ?a27 ?l27 ?c27 ?k27 ?a28 ?l28 ?c28 ?k28 ?a29 ?l29 ?c29 ?k29 ?a30 ?l30 ?c30 ?k30 ?a31 ?l31 ?c31 ?k31 ?gCA ?gCS ?gC ?ma1 ?mi1 ?ml1 ?mc1 ?mk1 ?ma2 ?mi2 ?ml2 ?mc2 ?mk2 ?ma3 ?mi3 ?ml3 ?mc3 ?mk3 ?ma4 ?mi4 ?ml4 ?mc4 ?mk4 ?ma5 ?mi5 ?ml5 ?mc5 ?mk5 ?ma6 ?mi6 ?ml6 ?mc6 ?mk6 ?ma7 ?mi7 ?ml7 ?mc7 ?mk7 ?ma8 ?mi8 ?ml8 ?mc8 ?mk8 ?ma9 ?mi9 ?ml9 ?mc9 ?mk9 ?ma10 ?mi10 ?ml10 ?mc10 ?mk10 ?ma11 ?mi11 ?ml11 ?mc11 ?mk11 ?pgCA ?hdCA ?poCA ?saCA ?msCA ?kcCA ?nCAwords ?nCAwaiting ?pgCS ?hdCS ?poCS ?saCS ?msCS ?kcCS ?nCSterm ?nCSasking ?nCSled ?nCSlast ?nCSbegun ?pgC ?hdC ?poC ?saC ?msC ?kcC ?nCerrands ?nCmost ?nCtrail ?nCend ?nCdeepest ?nCleft ?nCasked ?nCsteps ?nCgot ?gCN ?xCN ?kCN ?bCN ?tCN ?gCM ?xCM ?kCM ?bCM ?tCM ?z_len ?z_isinstance ?z_int ?z_tuple ?z_list ?z_str ?z_bool ?z_max ?z_all ?z_dict ?z_range ?z_enumerate ?z_reversed ?z_zip ?qNUMBERS ?qMOST_ASKS
    (case a1 => k_is)
    (case l1 => k_is)
    (case c1 => k_is)
    (case k1 => k_is)
    (case a2 => k_is)
    (case l2 => k_is)
    (case c2 => k_is)
    (case k2 => k_is)
    (case a3 => k_is)
    (case l3 => k_is)
    (case c3 => k_is)
    (case k3 => k_is)
    (case a4 => k_is)
    (case l4 => k_is)
    (case c4 => k_is)
    (case k4 => k_is)
    (case a5 => k_is)
    (case l5 => k_is)
    (case c5 => k_is)
    (case k5 => k_is)
    (case a6 => k_is)
    (case l6 => k_is)
    (case c6 => k_is)
    (case k6 => k_is)
    (case a7 => k_is)
    (case l7 => k_is)
    (case c7 => k_is)
    (case k7 => k_is)
    (case a8 => k_is)
    (case l8 => k_is)
    (case c8 => k_is)
    (case k8 => k_is)
    (case a9 => k_is)
    (case l9 => k_is)
    (case c9 => k_is)
    (case k9 => k_is)
    (case a10 => k_is)
    (case l10 => k_is)
    (case c10 => k_is)
    (case k10 => k_is)
    (case a11 => k_is)
    (case l11 => k_is)
    (case c11 => k_is)
    (case k11 => k_is)
    (case a12 => k_is)
    (case l12 => k_is)
    (case c12 => k_is)
    (case k12 => k_is)
    (case a13 => k_is)
    (case l13 => k_is)
    (case c13 => k_is)
    (case k13 => k_is)
    (case a14 => k_is)
    (case l14 => k_is)
    (case c14 => k_is)
    (case k14 => k_is)
    (case a15 => k_is)
    (case l15 => k_is)
    (case c15 => k_is)
    (case k15 => k_is)
    (case a16 => k_is)
    (case l16 => k_is)
    (case c16 => k_is)
    (case k16 => k_is)
    (case a17 => k_is)
    (case l17 => k_is)
    (case c17 => k_is)
    (case k17 => k_is)
    (case a18 => k_is)
    (case l18 => k_is)
    (case c18 => k_is)
    (case k18 => k_is)
    (case a19 => k_is)
    (case l19 => k_is)
    (case c19 => k_is)
    (case k19 => k_is)
    (case a20 => k_is)
    (case l20 => k_is)
    (case c20 => k_is)
    (case k20 => k_is)
    (case a21 => k_is)
    (case l21 => k_is)
    (case c21 => k_is)
    (case k21 => k_is)
    (case a22 => k_is)
    (case l22 => k_is)
    (case c22 => k_is)
    (case k22 => k_is)
    (case a23 => k_is)
    (case l23 => k_is)
    (case c23 => k_is)
    (case k23 => k_is)
    (case a24 => k_is)
    (case l24 => k_is)
    (case c24 => k_is)
    (case k24 => k_is)
    (case a25 => k_is)
    (case l25 => k_is)
    (case c25 => k_is)
    (case k25 => k_is)
    (case a26 => k_is)
    (case l26 => k_is)
    (case c26 => k_is)
    (case k26 => k_is)
    (case a27 => k_is)
    (case l27 => k_is)
    (case c27 => k_is)
    (case k27 => k_is)
    (case a28 => k_is)
    (case l28 => k_is)
    (case c28 => k_is)
    (case k28 => k_is)
    (case a29 => k_is)
    (case l29 => k_is)
    (case c29 => k_is)
    (case k29 => k_is)
    (case a30 => k_is)
    (case l30 => k_is)
    (case c30 => k_is)
    (case k30 => k_is)
    (case a31 => k_is)
    (case l31 => k_is)
    (case c31 => k_is)
    (case k31 => k_is)
    (case gCA => k_is)
    (case gCS => k_is)
    (case gC => k_is)
    (case ma1 => k_is)
    (case mi1 => k_is)
    (case ml1 => k_is)
    (case mc1 => k_is)
    (case mk1 => k_is)
    (case ma2 => k_is)
    (case mi2 => k_is)
    (case ml2 => k_is)
    (case mc2 => k_is)
    (case mk2 => k_is)
    (case ma3 => k_is)
    (case mi3 => k_is)
    (case ml3 => k_is)
    (case mc3 => k_is)
    (case mk3 => k_is)
    (case ma4 => k_is)
    (case mi4 => k_is)
    (case ml4 => k_is)
    (case mc4 => k_is)
    (case mk4 => k_is)
    (case ma5 => k_is)
    (case mi5 => k_is)
    (case ml5 => k_is)
    (case mc5 => k_is)
    (case mk5 => k_is)
    (case ma6 => k_is)
    (case mi6 => k_is)
    (case ml6 => k_is)
    (case mc6 => k_is)
    (case mk6 => k_is)
    (case ma7 => k_is)
    (case mi7 => k_is)
    (case ml7 => k_is)
    (case mc7 => k_is)
    (case mk7 => k_is)
    (case ma8 => k_is)
    (case mi8 => k_is)
    (case ml8 => k_is)
    (case mc8 => k_is)
    (case mk8 => k_is)
    (case ma9 => k_is)
    (case mi9 => k_is)
    (case ml9 => k_is)
    (case mc9 => k_is)
    (case mk9 => k_is)
    (case ma10 => k_is)
    (case mi10 => k_is)
    (case ml10 => k_is)
    (case mc10 => k_is)
    (case mk10 => k_is)
    (case ma11 => k_is)
    (case mi11 => k_is)
    (case ml11 => k_is)
    (case mc11 => k_is)
    (case mk11 => k_is)
    (case pgCA => k_is)
    (case hdCA => k_is)
    (case poCA => k_is)
    (case saCA => k_is)
    (case msCA => k_is)
    (case kcCA => k_is)
    (case nCAwords => k_is)
    (case nCAwaiting => k_is)
    (case pgCS => k_is)
    (case hdCS => k_is)
    (case poCS => k_is)
    (case saCS => k_is)
    (case msCS => k_is)
    (case kcCS => k_is)
    (case nCSterm => k_is)
    (case nCSasking => k_is)
    (case nCSled => k_is)
    (case nCSlast => k_is)
    (case nCSbegun => k_is)
    (case pgC => k_is)
    (case hdC => k_is)
    (case poC => k_is)
    (case saC => k_is)
    (case msC => k_is)
    (case kcC => k_is)
    (case nCerrands => k_is)
    (case nCmost => k_is)
    (case nCtrail => k_is)
    (case nCend => k_is)
    (case nCdeepest => k_is)
    (case nCleft => k_is)
    (case nCasked => k_is)
    (case nCsteps => k_is)
    (case nCgot => k_is)
    (case gCN => k_is)
    (case xCN => k_exc)
    (case kCN => k_is)
    (case bCN => k_is)
    (case tCN => k_is)
    (case gCM => k_is)
    (case xCM => k_exc)
    (case kCM => k_is)
    (case bCM => k_is)
    (case tCM => k_is)
    (case z_len => k_is)
    (case z_isinstance => k_is)
    (case z_int => k_is)
    (case z_tuple => k_is)
    (case z_list => k_is)
    (case z_str => k_is)
    (case z_bool => k_is)
    (case z_max => k_is)
    (case z_all => k_is)
    (case z_dict => k_is)
    (case z_range => k_is)
    (case z_enumerate => k_is)
    (case z_reversed => k_is)
    (case z_zip => k_is)
    (case qNUMBERS => k_is)
    (case qMOST_ASKS => k_is)
#print axioms PySem.Challenge.cw_whatnext_k08_last_and_led_on_holds
