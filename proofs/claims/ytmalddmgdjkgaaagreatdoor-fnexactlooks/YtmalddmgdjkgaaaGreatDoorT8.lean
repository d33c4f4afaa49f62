import Derived.Test.YtmalddmgdjkgaaaGreatDoorT4
import Derived.Test.YtmalddmgdjkgaaaGreatDoorT7
namespace Go.Proofs.YtmalddmgdjkgaaaGreatDoor
open Go.RowKit
def toL (x:I3):List UInt8:=if usesTo x.op=true then 32::Lib.decDigits x.to.toNat else []
def txL (x:I3):List UInt8:=if usesTx x.op=true then 32::quoteL x.tx.data.toList else []
def lineL (x:I3):List UInt8:=word x.op++toL x++txL x++[10]
theorem decLen (n:Nat) (h:n<100):(Lib.decDigits n).length≤2:=by
 by_cases h10:n<10
 · rw [dec_small n h10];simp
 rw [dec_two n h10,dec_small (n / 10) (by omega)];simp
theorem line_len {x:I3} (h:okI x=true):(word x.op).length≤4∧(toL x).length≤3∧(txL x).length≤903∧(lineL x).length≤911:=by
 obtain ⟨h1,_,_,h4,h5,h6⟩:=okI_bad h
 have a:=(word_in x.op h1).2
 have b:(toL x).length≤3:=by
  unfold toL;split
  · have:=decLen x.to.toNat (by omega);simp;omega
  simp
 have c:(txL x).length≤903:=by
  unfold txL;split
  · have:=quote_len x.tx.data.toList
    have e:x.tx.data.toList.length=x.tx.size:=by simp
    simp;omega
  simp
 refine ⟨a,b,c,?_⟩
 unfold lineL;simp only [List.length_append,List.length_cons,List.length_nil];omega
theorem cat_ofL (a b:List UInt8):ofL a++ofL b=ofL (a++b):=by apply ByteArray.ext;simp [ofL]
theorem one_ofL (c:UInt8):(⟨#[c]⟩:ByteArray)=ofL [c]:=rfl
theorem wordA_ofL (op:Int):wordA op=ofL (word op):=rfl
theorem c80' (s:ByteArray) (w:World) (hs:s.size≤1048700):
 Calls Tryz.prog 80 #[.string s] w fun e w'=>e=.returned (.string (ofL (quoteL s.data.toList)))∧Below w.heap.size w w':=c80 s w hs
def formL (is:List I3):List UInt8:=if okT is=true∧(is.flatMap lineL).length≤300 then is.flatMap lineL else []
theorem lines_len (is:List I3) (h:is.all okI=true):(is.flatMap lineL).length≤911*is.length:=by
 induction is with
 | nil=>simp
 | cons x r ih=>
  simp only [List.all_cons,Bool.and_eq_true] at h
  have:=ih h.2
  have h4:=(line_len h.1).2.2.2
  simp only [List.flatMap_cons,List.length_append,List.length_cons];omega
theorem okT_facts {is:List I3} (h:okT is=true):(1≤is.length∧is.length≤40)∧is.all okI=true:=by
 unfold okT at h
 simp only [Bool.and_eq_true,decide_eq_true_eq] at h
 exact h
theorem take_all {is:List I3} (h:is.all okI=true) (k:Nat):(is.take k).all okI=true:=by
 rw [List.all_eq_true] at h ⊢
 exact fun x hx=>h x (List.mem_of_mem_take hx)
theorem get_ok {is:List I3} (h:is.all okI=true) {k:Nat} (hk:k<is.length):okI (is.getD k i3z)=true:=by
 have e:is.getD k i3z=is[k]:=by simp [hk]
 rw [e];rw [List.all_eq_true] at h
 exact h _ (List.getElem_mem hk)
theorem flat_snoc {is:List I3} {k:Nat} (hk:k<is.length):(is.take (k+1)).flatMap lineL=(is.take k).flatMap lineL++lineL (is.getD k i3z):=by
 have e:is.getD k i3z=is[k]:=by simp [hk]
 rw [List.take_succ_eq_append_getElem hk,List.flatMap_append,e];simp
end Go.Proofs.YtmalddmgdjkgaaaGreatDoor
