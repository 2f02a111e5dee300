/-
  FramesLists: what it calls. No project text.
-/
import Derived.Test.YtkflmglpniebfaaFr11
namespace Go.Proofs.Ytkflmglpniebfaa.Fr
open Go.Rx
open Go.RowKit (Below)
set_option linter.unusedVariables false
theorem locA_mono {s : Rx.St} {c c' : List Value → List Blk → Prop} (h : ∀ us bs, c' us bs → c us bs) : ∀ (args : List Value) (k : Nat), locA s k args c' → locA s k args c := by
  intro args
  induction args generalizing c c' with
  | nil => exact fun k hc => h _ _ hc
  | cons v vs ih =>
    intro k hc
    unfold locA at hc ⊢
    split at hc
    · obtain ⟨o, ho, hc⟩ := kO_some hc
      show kO (Rx.look s.h _) _
      rw [ho]
      cases o with
      | cells cs e => exact hc.elim
      | row ro ks e n q f => exact ⟨hc.1, ih (fun us bs => h _ _) _ hc.2⟩
    · rename_i hne
      exact ⟨hc.1, ih (fun us bs => h _ _) _ hc.2⟩
/-- A narrower contract. -/
theorem Told.mono {f : Nat} {c c' : Con} (h : Told f (specOf c)) (hc : ∀ vs bs K, c' vs bs K → c vs bs K) : Told f (specOf c') :=
  ⟨h.1, fun args s K hk => h.2 args s K (locA_mono (fun us bs => hc us bs _) args 0 hk)⟩
abbrev KK := Value → List Blk → Prop
def onCF (O : Int → Int → Int → Int → Int → Nat → RF → Nat → KK → Prop) : Con := fun vs bs K => match vs with
  | [u, v] => five u fun a b c d e => parse [.i64, .i64] 0 v bs fun n f j bs => bs = [] ∧ O a b c d e n f j K
  | _ => False
theorem five_mono {v : Value} {k k' : Int → Int → Int → Int → Int → Prop} (h : ∀ a b c d e, k' a b c d e → k a b c d e) (x : five v k') : five v k := by
  unfold five at x ⊢
  split at x
  · exact ⟨x.1, h _ _ _ _ _ x.2⟩
  · exact x.elim
theorem parse_mono {ks : List IntKind} {j : Nat} {v : Value} {bs : List Blk} {k k' : Nat → RF → Nat → List Blk → Prop} (h : ∀ n f j bs, k' n f j bs → k n f j bs) (x : parse ks j v bs k') : parse ks j v bs k := by
  unfold parse at x ⊢
  split at x
  · exact h _ _ _ _ x
  · refine ⟨x.1, x.2.1, ?_⟩
    have y := x.2.2
    clear x
    split at y
    · exact ⟨y.1, h _ _ _ _ y.2⟩
    · exact y.elim
  · exact x.elim
theorem onCF_mono {O O' : Int → Int → Int → Int → Int → Nat → RF → Nat → KK → Prop} (h : ∀ a b c d e n f j K, O' a b c d e n f j K → O a b c d e n f j K) : ∀ vs bs K, onCF O' vs bs K → onCF O vs bs K := by
  intro vs bs K x
  unfold onCF at x ⊢
  split at x
  · exact five_mono (fun a b c d e => parse_mono fun n f j bs y => ⟨y.1, h _ _ _ _ _ _ _ _ _ y.2⟩) x
  · exact x.elim
def sp18 : Rx.Spec := fun args s K => args = [] ∧ K (.bool true) s
set_option maxRecDepth 1000000 in
theorem closed18 : Ev.run ⟨Try.prog, Ev.mkTT Try.prog, Ev.mkFT Try.prog, [], [], [], none⟩ 1000000 18 [] = some true := by kernel_rfl
theorem told18 : Told 18 sp18 := ⟨⟨Try.f18, by kernel_rfl, by kernel_rfl, by kernel_rfl⟩, specTrue_ok (Ev.run_closed mixed closed18)⟩
def con24B : Con := onCF fun a b c d e n f j K => ¬ (ckF a b c d e n f).2 = 0 ∧ K (.tuple ⟨[.slice none 0 0, .int .i64 (ckF a b c d e n f).2]⟩) []
theorem con24B_told : Told 24 (specOf con24B) := con24_told.mono (onCF_mono fun a b c d e n f j K h => ⟨fun _ => h.2, fun q => absurd q h.1⟩)
def con24N : Con := onCF fun a b c d e n f j K => ((ckF a b c d e n f).2 = 0 ∧ (sel (selE f 0) n) = []) ∧ K (.tuple ⟨[.slice none 0 0, .int .i64 0]⟩) []
theorem con24N_told : Told 24 (specOf con24N) := con24_told.mono (onCF_mono fun a b c d e n f j K h => ⟨fun q => absurd h.1.1 q, fun _ => ⟨fun _ => h.2, fun q => absurd h.1.2 q⟩⟩)
def con24R : Con := onCF fun a b c d e n f j K => ((ckF a b c d e n f).2 = 0 ∧ ¬ (sel (selE f 0) n) = []) ∧ ∀ cp, List.length (sel (selE f 0) n) ≤ cp → K (.tuple ⟨[rsl j 0 (List.length (sel (selE f 0) n)) cp, .int .i64 0]⟩) [.row false [.i64] 3 (List.length (sel (selE f 0) n)) cp (lF (sel (selE f 0) n))]
theorem con24R_told : Told 24 (specOf con24R) := con24_told.mono (onCF_mono fun a b c d e n f j K h => ⟨fun q => absurd h.1.1 q, fun _ => ⟨fun q => absurd q h.1.2, fun _ => h.2⟩⟩)
def con26N : Con := onCF fun a b c d e n f j K => ((ckF a b c d e n f).2 = 0 ∧ (sel (selE f 2) n) = []) ∧ K (.tuple ⟨[.slice none 0 0, .int .i64 0]⟩) []
theorem con26N_told : Told 26 (specOf con26N) := con26_told.mono (onCF_mono fun a b c d e n f j K h => ⟨fun q => absurd h.1.1 q, fun _ => ⟨fun _ => h.2, fun q => absurd h.1.2 q⟩⟩)
def con26R : Con := onCF fun a b c d e n f j K => ((ckF a b c d e n f).2 = 0 ∧ ¬ (sel (selE f 2) n) = []) ∧ ∀ cp, List.length (sel (selE f 2) n) ≤ cp → K (.tuple ⟨[rsl j 0 (List.length (sel (selE f 2) n)) cp, .int .i64 0]⟩) [.row false [.i64] 3 (List.length (sel (selE f 2) n)) cp (lF (sel (selE f 2) n))]
theorem con26R_told : Told 26 (specOf con26R) := con26_told.mono (onCF_mono fun a b c d e n f j K h => ⟨fun q => absurd h.1.1 q, fun _ => ⟨fun q => absurd q h.1.2, fun _ => h.2⟩⟩)
def conIntsT : Con := fun vs bs K => match vs with
  | [u, v] => parse [.i64] 0 u bs fun n f j bs => parse [.i64] j v bs fun m g _ bs => bs = [] ∧ (n = m ∧ ∀ i, i < n → f i 0 = g i 0) ∧ K (.bool true) []
  | _ => False
theorem conIntsT_told : Told 28 (specOf conIntsT) := conInts_told.mono fun vs bs K x => by
  unfold conIntsT at x
  unfold conInts
  split at x
  · exact parse_mono (fun n f j bs => parse_mono fun m g j bs y => ⟨y.1, fun b hb => (by
      obtain rfl : b = true := hb.2 y.2.1
      exact y.2.2)⟩) x
  · exact x.elim
def conSameT : Con := fun vs bs K => match vs with
  | [u, v] => parse [.i64, .i64] 0 u bs fun n f j bs => parse [.i64, .i64] j v bs fun m g _ bs => bs = [] ∧ (n = m ∧ ∀ i, i < n → f i 0 = g i 0 ∧ f i 1 = g i 1) ∧ K (.bool true) []
  | _ => False
theorem conSameT_told : Told 23 (specOf conSameT) := conSame_told.mono fun vs bs K x => by
  unfold conSameT at x
  unfold conSame
  split at x
  · exact parse_mono (fun n f j bs => parse_mono fun m g j bs y => ⟨y.1, fun b hb => (by
      obtain rfl : b = true := hb.2 y.2.1
      exact y.2.2)⟩) x
  · exact x.elim
end Go.Proofs.Ytkflmglpniebfaa.Fr
