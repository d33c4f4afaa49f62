import Derived.Test.YtpjpckmfehfniaaGreatDoorZC15
import Derived.Test.YtpjpckmfehfniaaGreatDoorN9
namespace Go.Proofs.YtpjpckmfehfniaaGreatDoor
open Go.RowKit
structure Three (T : List I3) (arg : ByteArray) (reps : List R2) : Prop where
 tl : T.length ≤ 1048576
 ts : ∀ i, (T.getD i i3z).tx.size ≤ 1048576
 al : arg.size ≤ 1048576
 rl : reps.length ≤ 1048576
 rs : ∀ i, (reps.getD i r2z).tx.size ≤ 1048576
theorem c34 (a : Option Addr) (cap : Nat) (T : List I3) (arg : ByteArray) (a2 : Option Addr) (cap2 : Nat) (reps : List R2) (w : World) (h3 : Three T arg reps) (hat : InsAt w a T) (hat2 : ResAt w a2 reps) :
 Calls Tryz.prog 34 #[.agg #[.slice a T.length cap], .string arg, .slice a2 reps.length cap2] w fun e w' => e = .returned (nextT T arg reps).v ∧ Below w.heap.size w w' := by
 have hs : ∀ i, (T.getD i i3z).tx.size ≤ 1048700 := fun i => Nat.le_trans (h3.ts i) (by omega)
 by_cases h : okT T = true ∧ arg.size ≤ 300 ∧ reps.length ≤ 14
 · exact c34y a cap T arg a2 cap2 reps w hs h3.tl hat h.1 h.2.2 h.2.1 hat2 (fun i => Nat.le_trans (h3.rs i) (by omega))
 · refine c34n a cap T arg a2 cap2 reps w hs h3.tl hat ?_ h3.al h3.rl
   by_cases h1 : okT T = true
   · by_cases h2 : arg.size ≤ 300
     · exact .inr (.inr (by have h4 : ¬ reps.length ≤ 14 := fun h4 => h ⟨h1, h2, h4⟩; omega))
     · exact .inr (.inl (by omega))
   · exact .inl (by simpa using h1)
theorem c89 (a : Option Addr) (cap : Nat) (T : List I3) (arg : ByteArray) (a2 : Option Addr) (cap2 : Nat) (reps : List R2) (w : World) (h3 : Three T arg reps) (hat : InsAt w a T) (hat2 : ResAt w a2 reps) (hsh : ShapesAt w) (hmx : MaxAt w) :
 Calls Tryz.prog 89 #[.agg #[.slice a T.length cap], .string arg, .slice a2 reps.length cap2] w fun e w' => e = .returned (nextT T arg reps).v ∧ Below w.heap.size w w' := by
 have hs : ∀ i, (T.getD i i3z).tx.size ≤ 1048700 := fun i => Nat.le_trans (h3.ts i) (by omega)
 by_cases h : okT T = true ∧ arg.size ≤ 300 ∧ reps.length ≤ 14
 · exact c89y a cap T arg a2 cap2 reps w hs h3.tl hat h.1 h.2.2 h.2.1 hat2 (fun i => Nat.le_trans (h3.rs i) (by omega)) hsh hmx
 · refine c89n a cap T arg a2 cap2 reps w hs h3.tl hat ?_ hsh h3.al h3.rl
   by_cases h1 : okT T = true
   · by_cases h2 : arg.size ≤ 300
     · exact .inr (.inr (by have h4 : ¬ reps.length ≤ 14 := fun h4 => h ⟨h1, h2, h4⟩; omega))
     · exact .inr (.inl (by omega))
   · exact .inl (by simpa using h1)
theorem c34t {o : Bool} {c : Int} {t : ByteArray} {h : Bool} {n : ByteArray} {k : Int} (a : Option Addr) (cap : Nat) (T : List I3) (arg : ByteArray) (a2 : Option Addr) (cap2 : Nat) (reps : List R2) (w : World) (h3 : Three T arg reps) (hat : InsAt w a T) (hat2 : ResAt w a2 reps) (e : nextT T arg reps = ⟨o, c, t, h, n, k⟩) :
 Calls Tryz.prog 34 #[.agg #[.slice a T.length cap], .string arg, .slice a2 reps.length cap2] w fun e w' => e = .returned (.agg #[.bool o, .int .i64 c, .string t, .bool h, .string n, .int .i64 k]) ∧ Below w.heap.size w w' := by
 have := c34 a cap T arg a2 cap2 reps w h3 hat hat2
 rw [e] at this
 exact this
theorem c89t {o : Bool} {c : Int} {t : ByteArray} {h : Bool} {n : ByteArray} {k : Int} (a : Option Addr) (cap : Nat) (T : List I3) (arg : ByteArray) (a2 : Option Addr) (cap2 : Nat) (reps : List R2) (w : World) (h3 : Three T arg reps) (hat : InsAt w a T) (hat2 : ResAt w a2 reps) (hsh : ShapesAt w) (hmx : MaxAt w) (e : nextT T arg reps = ⟨o, c, t, h, n, k⟩) :
 Calls Tryz.prog 89 #[.agg #[.slice a T.length cap], .string arg, .slice a2 reps.length cap2] w fun e w' => e = .returned (.agg #[.bool o, .int .i64 c, .string t, .bool h, .string n, .int .i64 k]) ∧ Below w.heap.size w w' := by
 have := c89 a cap T arg a2 cap2 reps w h3 hat hat2 hsh hmx
 rw [e] at this
 exact this
end Go.Proofs.YtpjpckmfehfniaaGreatDoor
