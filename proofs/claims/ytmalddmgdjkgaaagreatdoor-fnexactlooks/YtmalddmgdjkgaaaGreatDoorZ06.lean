import Derived.WalkKit
import Derived.Laws.BytesArg
import Derived.Test.YtmalddmgdjkgaaaGreatDoorProg
import Derived.WalkSpells
import Derived.WalkLawsBesides
import Derived.Deep.RegionWith
import Derived.Deep.QuietTactic
import Derived.BigQuiet
/-
 The plain mathematics of names and decimals: no program is named here.
-/
namespace Go.Proofs.YtmalddmgdjkgaaaGreatDoor.M
open Go.RowKit
def isDig (c:UInt8):Bool:=decide (48≤(c.toNat:Int)∧(c.toNat:Int)≤57)
def isGraph (c:UInt8):Bool:=decide (33≤(c.toNat:Int)∧(c.toNat:Int)≤126)
def nameOk (l:List UInt8):Bool:=decide (1≤l.length∧l.length≤20)&&l.all isGraph
def vstep (n:Int) (c:UInt8):Int:=n*10+((c.toNat:Int) - 48)
def val (l:List UInt8):Int:=l.foldl vstep 0
theorem val_snoc (l:List UInt8) (c:UInt8):val (l++[c])=val l*10+((c.toNat:Int) - 48):=by simp [val,vstep]
theorem dig_iff (c:UInt8):isDig c=true↔48≤(c.toNat:Int)∧(c.toNat:Int)≤57:=by simp [isDig]
theorem graph_iff (c:UInt8):isGraph c=true↔33≤(c.toNat:Int)∧(c.toNat:Int)≤126:=by simp [isGraph]
theorem snoc_ind {P:List UInt8→Prop} (h0:P []) (h1:∀ l c,P l→P (l++[c])) (l:List UInt8):P l:=by
 have h:∀ r:List UInt8,P r.reverse:=fun r=>by
  induction r with
  | nil=>exact h0
  | cons c r ih=>rw [List.reverse_cons];exact h1 _ _ ih
 have:=h l.reverse
 rwa [List.reverse_reverse] at this
theorem val_nonneg (l:List UInt8):l.all isDig=true→0≤val l:=by
 refine snoc_ind (P:=fun l=>l.all isDig=true→0≤val l) (by simp [val]) (fun l c ih h=>?_) l
 rw [List.all_append] at h
 simp only [List.all_cons,List.all_nil,Bool.and_true,Bool.and_eq_true] at h
 have:=ih h.1
 have hc:=(dig_iff c).1 h.2
 rw [val_snoc];omega
def lean1 (l:List UInt8):Bool:=!l.isEmpty&&!(l.headD 0==48&&!(l==[48]))
def num40 (l:List UInt8):Bool:=lean1 l&&l.all isDig&&decide (val l≤40)
def decF:Nat→Int→List UInt8
 | 0,_=>[]
 | f+1,n=>if n<10 then [UInt8.ofNat (48+n).toNat] else decF f (n / 10)++[UInt8.ofNat (48+n % 10).toNat]
def dec (n:Int):List UInt8:=decF (n.toNat+1) n
theorem decF_any (f g:Nat) (n:Int) (h0:0≤n) (hf:n.toNat<f) (hg:n.toNat<g):decF f n=decF g n:=by
 induction f generalizing g n with
 | zero=>omega
 | succ f ih=>
  cases g with
  | zero=>omega
  | succ g=>
   simp only [decF]
   by_cases h:n<10
   · rw [if_pos h,if_pos h]
   rw [if_neg h,if_neg h,ih g (n / 10) (by omega) (by omega) (by omega)]
theorem dec_lt (n:Int) (h:n<10):dec n=[UInt8.ofNat (48+n).toNat]:=by simp [dec,decF,h]
theorem dec_ge (n:Int) (h:10≤n):dec n=dec (n / 10)++[UInt8.ofNat (48+n % 10).toNat]:=by
 unfold dec
 rw [decF,if_neg (by omega),decF_any n.toNat ((n / 10).toNat+1) (n / 10) (by omega) (by omega) (by omega)]
theorem dec_ne (n:Int):dec n≠[]:=by
 by_cases h:n<10
 · rw [dec_lt n h];simp
 rw [dec_ge n (by omega)];simp
theorem ofNat_dig (c:UInt8) (h:isDig c=true):UInt8.ofNat (48+((c.toNat:Int) - 48)).toNat=c:=by
 have:=(dig_iff c).1 h
 rw [show (48+((c.toNat:Int) - 48)).toNat=c.toNat by omega]
 exact UInt8.ofNat_toNat
theorem dec_val (l:List UInt8):l.all isDig=true→lean1 l=true→dec (val l)=l∧(2≤l.length→10≤val l)∧(l.headD 0≠48→1≤val l):=by
 refine snoc_ind (P:=fun l=>l.all isDig=true→lean1 l=true→dec (val l)=l∧(2≤l.length→10≤val l)∧(l.headD 0≠48→1≤val l)) (by simp [lean1]) (fun l c ih h hl=>?_) l
 rw [List.all_append] at h
 simp only [List.all_cons,List.all_nil,Bool.and_true,Bool.and_eq_true] at h
 have hc:=(dig_iff c).1 h.2
 have hd:=ofNat_dig c h.2
 cases l with
 | nil=>
  have e:val ([]++[c])=(c.toNat:Int) - 48:=by rw [val_snoc];simp [val]
  rw [e]
  refine ⟨?_,by simp,?_⟩
  · rw [dec_lt _ (by omega),hd];rfl
  intro h1
  simp at h1
  have:c.toNat≠48:=fun e=>h1 (by rw [← UInt8.toNat_inj];exact e)
  omega
 | cons a r=>
  have ha:a≠48:=by
   intro e
   subst e
   simp [lean1] at hl
  have hl':lean1 (a::r)=true:=by simp [lean1,ha]
  obtain ⟨h1,_,h3⟩:=ih h.1 hl'
  have h4:=h3 (by simpa using ha)
  rw [val_snoc]
  have hdiv:(val (a::r)*10+((c.toNat:Int) - 48)) / 10=val (a::r):=by omega
  have hmod:(val (a::r)*10+((c.toNat:Int) - 48)) % 10=(c.toNat:Int) - 48:=by omega
  refine ⟨?_,fun _=>by omega,fun _=>by omega⟩
  rw [dec_ge _ (by omega),hdiv,hmod,h1,hd]
theorem dec_lean (f:Nat) (n:Int) (h0:0≤n) (hf:n.toNat<f):lean1 (dec n)=true∧(1≤n→(dec n).headD 0≠48):=by
 induction f generalizing n with
 | zero=>omega
 | succ f ih=>
  by_cases h:n<10
  · rw [dec_lt n h]
    obtain rfl | rfl | rfl | rfl | rfl | rfl | rfl | rfl | rfl | rfl:n=0∨n=1∨n=2∨n=3∨n=4∨n=5∨n=6∨n=7∨n=8∨n=9:=by omega
    all_goals decide
  obtain ⟨h1,h2⟩:=ih (n / 10) (by omega) (by omega)
  have h3:=h2 (by omega)
  rw [dec_ge n (by omega)]
  have hne:=dec_ne (n / 10)
  generalize dec (n / 10)=l at*
  cases l with
  | nil=>exact absurd rfl hne
  | cons a r=>
   have ha:a≠48:=by simpa using h3
   exact ⟨by simp [lean1,ha],fun _=>by simpa using ha⟩
theorem val_dig_len (l:List UInt8) (h:l.all isDig=true) (hl:lean1 l=true) (h40:val l≤40):l.length≤2:=by
 rcases Nat.lt_or_ge 2 l.length with h2 | h2
 · exfalso
   rcases List.eq_nil_or_concat l with e | ⟨r,c,e⟩
   · subst e;simp at h2
   rw [List.concat_eq_append] at e
   subst e
   rw [List.all_append] at h
   simp only [List.all_cons,List.all_nil,Bool.and_true,Bool.and_eq_true] at h
   have hr:2≤r.length:=by simp at h2;omega
   cases r with
   | nil=>simp at hr
   | cons a r=>
    have ha:a≠48:=by
     intro e
     subst e
     simp [lean1] at hl
    have:=(dec_val (a::r) h.1 (by simp [lean1,ha])).2.1 hr
    have hc:=(dig_iff c).1 h.2
    rw [val_snoc] at h40
    omega
 exact h2
end Go.Proofs.YtmalddmgdjkgaaaGreatDoor.M
namespace Go.Proofs.YtmalddmgdjkgaaaGreatDoor.M
theorem decF_len (f:Nat) (n:Int):(decF f n).length≤f:=by
 induction f generalizing n with
 | zero=>simp [decF]
 | succ f ih=>
  simp only [decF]
  by_cases h:n<10
  · rw [if_pos h];simp
  rw [if_neg h];have:=ih (n / 10);simp;omega
theorem dec_len (n:Int) (h:0≤n) (h1:n≤100000000):(dec n).length≤100000001:=by
 have:=decF_len (n.toNat+1) n
 unfold dec;omega
end Go.Proofs.YtmalddmgdjkgaaaGreatDoor.M
namespace Go.Proofs.YtmalddmgdjkgaaaGreatDoor.G
open Go.RowKit
structure M3 where
 nm:ByteArray
 tl:ByteArray
 ar:ByteArray
def m3z:M3:=⟨⟨#[]⟩,⟨#[]⟩,⟨#[]⟩⟩
def M3.v (x:M3):Value:=.agg #[.string x.nm,.string x.tl,.string x.ar]
def M3.le (x:M3) (B:Nat):Prop:=x.nm.size≤B∧x.tl.size≤B∧x.ar.size≤B
def MksAt (w:World) (a:Option Addr) (is:List M3):Prop:=
 is=[]∨∃ b off,a=some ⟨b,off,none⟩∧b<w.heap.size∧∀ i,i<is.length→w.cell? ⟨b,off+i*3,none⟩=some (.string (is.getD i m3z).nm)∧w.cell? ⟨b,off+i*3+1,none⟩=some (.string (is.getD i m3z).tl)∧w.cell? ⟨b,off+i*3+2,none⟩=some (.string (is.getD i m3z).ar)
theorem mks_some {w:World} {a:Option Addr} {is:List M3} (h:MksAt w a is):∃ b off,(is=[]∨(a=some ⟨b,off,none⟩∧b<w.heap.size∧∀ i,i<is.length→w.cell? ⟨b,off+i*3,none⟩=some (.string (is.getD i m3z).nm)∧w.cell? ⟨b,off+i*3+1,none⟩=some (.string (is.getD i m3z).tl)∧w.cell? ⟨b,off+i*3+2,none⟩=some (.string (is.getD i m3z).ar))):=by
 rcases h with h | ⟨b,off,h⟩
 · exact ⟨0,0,.inl h⟩
 exact ⟨b,off,.inr h⟩
theorem mks_below {w w':World} {a:Option Addr} {is:List M3} (h:MksAt w a is) (hb:Below w.heap.size w w'):MksAt w' a is:=by
 rcases h with h | ⟨b,off,h1,h2,h3⟩
 · exact .inl h
 exact .inr ⟨b,off,h1,Nat.lt_of_lt_of_le h2 hb.size,fun i hi=>by rw [hb.cell (by exact h2),hb.cell (by exact h2),hb.cell (by exact h2)];exact h3 i hi⟩
theorem getD_smallM {is:List M3} {B:Nat} (h:∀ i,i<is.length→(is.getD i m3z).le B) (i:Nat):(is.getD i m3z).le B:=by
 rcases Nat.lt_or_ge i is.length with h' | h'
 · exact h i h'
 have e:is.getD i m3z=m3z:=by simp [List.getD,List.getElem?_eq_none h']
 rw [e];exact ⟨Nat.zero_le _,Nat.zero_le _,Nat.zero_le _⟩
theorem adr_ne {B i j:Nat} (h:i≠j):(⟨B,i,none⟩:Addr)≠⟨B,j,none⟩:=by intro e;injection e with _ e;exact h e
theorem set3_at (u:World) (B j:Nat) (v0 v1 v2 x0 x1 x2:Value) (h0:u.cell? ⟨B,j,none⟩=some x0) (h1:u.cell? ⟨B,j+1,none⟩=some x1) (h2:u.cell? ⟨B,j+2,none⟩=some x2):
 (((u.setCell ⟨B,j,none⟩ v0).setCell ⟨B,j+1,none⟩ v1).setCell ⟨B,j+2,none⟩ v2).cell? ⟨B,j,none⟩=some v0∧(((u.setCell ⟨B,j,none⟩ v0).setCell ⟨B,j+1,none⟩ v1).setCell ⟨B,j+2,none⟩ v2).cell? ⟨B,j+1,none⟩=some v1∧(((u.setCell ⟨B,j,none⟩ v0).setCell ⟨B,j+1,none⟩ v1).setCell ⟨B,j+2,none⟩ v2).cell? ⟨B,j+2,none⟩=some v2:=by
 have a1:(u.setCell ⟨B,j,none⟩ v0).cell? ⟨B,j+1,none⟩=some x1:=by rw [World.cell?_setCell_other _ _ _ _ (adr_ne (by omega))];exact h1
 have a2:((u.setCell ⟨B,j,none⟩ v0).setCell ⟨B,j+1,none⟩ v1).cell? ⟨B,j+2,none⟩=some x2:=by
  rw [World.cell?_setCell_other _ _ _ _ (adr_ne (by omega)),World.cell?_setCell_other _ _ _ _ (adr_ne (by omega))];exact h2
 refine ⟨?_,?_,World.cell?_setCell_same _ _ _ a2⟩
 · rw [World.cell?_setCell_other _ _ _ _ (adr_ne (by omega)),World.cell?_setCell_other _ _ _ _ (adr_ne (by omega))];exact World.cell?_setCell_same _ _ _ h0
 rw [World.cell?_setCell_other _ _ _ _ (adr_ne (by omega))];exact World.cell?_setCell_same _ _ _ a1
theorem info41:(Tryz.prog.info? 41).map (fun i=>(i.zero,i.size,i.bytes))=some (some (.agg #[.string ⟨#[]⟩,.string ⟨#[]⟩,.string ⟨#[]⟩]),3,48):=by kernel_rfl
end Go.Proofs.YtmalddmgdjkgaaaGreatDoor.G
/-
 The plain mathematics of names and decimals: no program is named here.
-/
namespace Go.Proofs.YtmalddmgdjkgaaaGreatDoor.G
open Go.RowKit
def isGraph (c:UInt8):Bool:=decide (33≤(c.toNat:Int)∧(c.toNat:Int)≤126)
def nameOk (l:List UInt8):Bool:=decide (1≤l.length∧l.length≤20)&&l.all isGraph
theorem graph_iff (c:UInt8):isGraph c=true↔33≤(c.toNat:Int)∧(c.toNat:Int)≤126:=by simp [isGraph]
end Go.Proofs.YtmalddmgdjkgaaaGreatDoor.G
namespace Go.Proofs.YtmalddmgdjkgaaaGreatDoor.G
end Go.Proofs.YtmalddmgdjkgaaaGreatDoor.G
