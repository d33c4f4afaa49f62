import Derived.Test.YtlckdgjfniglfaaGreatDoorProg
import Derived.Below
set_option linter.unusedVariables false
namespace Go.Proofs
theorem hI_ {p:Prop} (h:p):Go.RowKit.Hid p:=h
theorem bA_ {w:World} {o:Obj}:Go.RowKit.Below w.heap.size w (w.alloc o):=(Go.RowKit.Below.refl _ _).alloc (Nat.le_refl _) _
theorem bT_ {w u v:World} (h:Go.RowKit.Below w.heap.size w u) (k:Go.RowKit.Below u.heap.size u v):Go.RowKit.Below w.heap.size w v:=h.trans (k.mono h.size)
theorem om_ {p:Prop} (h:p:=by omega):p:=h
theorem so_ {p:Prop} (h:p:=by simp;omega):p:=h
theorem sm_ {p:Prop} (h:p:=by simp):p:=h
theorem dc_ {p:Prop} (h:p:=by decide):p:=h
theorem kr_ {p:Prop} (h:p:=by kernel_rfl):p:=h
theorem lr_ {n:Nat}:n<=n:=Nat.le_refl n
end Go.Proofs
namespace Go.Proofs.YtlckdgjfniglfaaGreatDoor
end Go.Proofs.YtlckdgjfniglfaaGreatDoor
