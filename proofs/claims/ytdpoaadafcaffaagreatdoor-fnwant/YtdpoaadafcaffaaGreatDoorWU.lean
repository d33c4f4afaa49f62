import Derived.Test.YtdpoaadafcaffaaGreatDoorWP
import Derived.Test.YtdpoaadafcaffaaGreatDoorWQ
import Derived.Test.YtdpoaadafcaffaaGreatDoorWS
set_option linter.unusedVariables false
set_option maxHeartbeats 8000000
set_option maxRecDepth 100000
namespace Go.Proofs.YtdpoaadafcaffaaGreatDoor
open Proofs.Tryz
open Go.RowKit
open G (Q6 Ke)
open G.T (F2 L6 Y3 U3)
variable {E:Env} {n:ByteArray} {d d':Dd} {fs:List F2} {ms:List M3}
theorem xE (ht:Y3 fs) (hp:Q6 fs ms) (hn:Y1 n.data.toList=true) (h:Fa (o7 fs ms) n d) (h':qo fs n d'):d'=d:=by
 rcases h' with ⟨_,_,ms',h1,h2⟩ | ⟨h1 | h1,_⟩
 · obtain rfl:=G.Bc hp h1
   exact yg (qc ht hp) h2 h
 · exact absurd ht h1
 rw [hn] at h1;cases h1
theorem iH (h:Fa (o7 fs ms) n d) (hm:d.md=false):d.ls=[]/\(d.r.code=0\/d.r.code=4):=by
 rcases h with ⟨r,h1,rfl⟩ | ⟨m,L,_,_,_,_,rfl⟩
 · refine ⟨rfl,?_⟩
   show r.code=0\/r.code=4;have h1:(Ke fs ms n).map Wt=some r:=h1;unfold Ke at h1;split at h1
   · cases h1;exact .inl rfl
   split at h1
   · cases h1;exact .inr rfl
   cases h1
 cases hm
theorem YA {m:M3} {L l:List M.L4} (h:V8 E m L) (hp:l <+:L) (ho:(tn m l).over=true):l=L:=by
 obtain ⟨r,rfl⟩:=hp
 cases r with
 | nil=>simp
 | cons x r=>
  obtain ⟨_,_,h2,_⟩:=Ko h (k:=l.length) U0;rw [List.take_left,ho] at h2;cases h2
theorem CF (hE:l8 E) {t:TN} {r:R2} (ha:Ro E t r) (ht:t.has=false) (h:Fa E t.name d):d.r=r:=by
 rcases ha with ⟨h1,_⟩ | ⟨_,h1 | ⟨h1,m,l,h2,h3,h4,h5,rfl⟩⟩
 · rw [ht] at h1;cases h1
 · rcases h with ⟨r',k1,rfl⟩ | ⟨m,L,k1,k2,_⟩
   · rw [h1] at k1;cases k1;rfl
   have:=(hE.made _).2 ⟨m,k1,k2⟩;rw [h1] at this;cases this
 rcases h with ⟨r',k1,rfl⟩ | ⟨m',L,k1,k2,k3,k4,rfl⟩
 · rw [h1] at k1;cases k1
 obtain rfl:=hE.one _ _ h2 k1 (h3.trans k2.symm);obtain rfl:=YA k3 (k4 _ h4) h5;show (if (tn m l).over then _ else _)=_;rw [if_pos h5]
theorem WC (hE:l8 E) (h:Fa E n d) {k:Nat} (hk:k<d.ls.length) (hh:(d.ls.getD k M.A_).has=false):Y1 (d.ls.getD k M.A_).nm.data.toList=true/\∀ d',Fa E (d.ls.getD k M.A_).nm d'->d'.r=⟨(d.ls.getD k M.A_).cd,(d.ls.getD k M.A_).tx⟩:=by
 rcases h with ⟨r,_,rfl⟩ | ⟨m,L,h1,h2,h3,h4,rfl⟩
 · exact absurd hk (Nat.not_lt_zero _)
 have hk:k<L.length:=hk;have ho:=(M_ hE (hE.ms _ h1) h3).2 (L.getD k M.A_) (by simp [List.getD,hk]);refine ⟨ho.1,fun d' hd=>?_⟩;obtain ⟨r,e1,_,_,e4⟩:=Ko h3 hk;change (L.getD k M.A_).has=false at hh;change Fa E (L.getD k M.A_).nm d' at hd;change d'.r=⟨(L.getD k M.A_).cd,(L.getD k M.A_).tx⟩;rw [e1] at hh hd ⊢;exact CF hE e4 hh hd
theorem jE (hE:l8 E) (h:Fa E n d) (hm:d.md=true):Z9 d.m=true/\V8 E d.m d.ls/\((d.r.code=6/\(tn d.m d.ls).over=false/\(tn d.m d.ls).has=false/\Y1 (tn d.m d.ls).name.data.toList=true/\∀ d',Fa E (tn d.m d.ls).name d'->d'.r.code=6)\/(d.r.code≠6/\(tn d.m d.ls).over=true/\jg (tn d.m d.ls)=d.r)):=by
 rcases h with ⟨r,_,rfl⟩ | ⟨m,L,h1,h2,h3,h4,rfl⟩
 · cases hm
 have hi:=Y_ hE h3 (hE.ms _ h1);refine ⟨hE.ms _ h1,h3,?_⟩;by_cases ho:(tn m L).over=true
 · have e:∀ x y:R2,(if (tn m L).over=true then x else y)=x:=fun x y=>if_pos ho
   refine .inr ⟨?_,ho,(e _ _).symm⟩;show (if _ then _ else _:R2).code≠6;rw [e];exact Ez (hi.over ho)
 have ho:(tn m L).over=false:=by simpa using ho
 have hx:∀ r,¬ Ro E (tn m L) r:=fun r ha=>by
  have:=(h4 _ (Kl h3 ho ha)).length_le;simp at this;omega
 have hh:(tn m L).has=false:=by
  cases e:(tn m L).has
  · rfl
  exact absurd (.inl ⟨e,rfl⟩) (hx _)
 refine .inl ⟨?_,ho,hh,(hi.name ho).1,fun d' hd=>?_⟩
 · show (if _ then _ else _:R2).code=6
   rw [if_neg (by rw [ho];simp)]
 rcases hd with ⟨r,k1,rfl⟩ | ⟨m',L',k1,k2,k3,k4,rfl⟩
 · exact absurd (.inr ⟨hh,.inl k1⟩) (hx r)
 show (if _ then _ else _:R2).code=6;rw [if_neg];intro hc;exact hx _ (.inr ⟨hh,.inr ⟨(hE.made _).2 ⟨m',k1,k2⟩,m',L',k1,k2,k3,hc,rfl⟩⟩)
end Go.Proofs.YtdpoaadafcaffaaGreatDoor
namespace Go.Proofs.YtdpoaadafcaffaaGreatDoor
open Proofs.Tryz
open Go.RowKit
open G (Q6 Ke)
open G.T (F2 L6 Y3 U3)
variable {n:ByteArray} {d d':Dd} {fs:List F2} {ms:List M3} {ds ds':List Dd}
theorem OG (h:qo fs n d) (h':qo fs n d'):d.r=d'.r:=by
 rcases h with ⟨h1,h2,ms,h3,h4⟩ | ⟨h1,h2,h3⟩
 · rw [xE h1 h3 h2 h4 h']
 rcases h' with ⟨k1,k2,_⟩ | ⟨_,_,k3⟩
 · rcases h1 with h | h
   · exact absurd k1 h
   rw [k2] at h;cases h
 rw [h3,k3]
def VH (fs:List F2) (n:ByteArray) (ds:List Dd):Prop:=(Y3 fs/\Y1 n.data.toList=true/\∃ ms,Q6 fs ms/\gm (o7 fs ms) n ds)\/((¬ Y3 fs\/Y1 n.data.toList=false)/\ds=[])
theorem fE (h:VH fs n ds) (h':VH fs n ds'):ds=ds':=by
 rcases h with ⟨h1,h2,ms,h3,h4⟩ | ⟨h1,h2⟩ <;> rcases h' with ⟨k1,k2,ms',k3,k4⟩ | ⟨k1,k2⟩
 · obtain rfl:=G.Bc h3 k3
   exact Ry (qc h1 h3) h4 k4
 · rcases k1 with h | h
   · exact absurd h1 h
   rw [h2] at h;cases h
 · rcases h1 with h | h
   · exact absurd k1 h
   rw [k2] at h;cases h
 rw [h2,k2]
theorem fG (h:VH fs n ds):ds.length<=481/\∀ d∈ds,Y3 fs/\Y1 d.nm.data.toList=true/\d.ls.length<=15/\∃ ms,Q6 fs ms/\Fa (o7 fs ms) d.nm d:=by
 rcases h with ⟨h1,h2,ms,h3,h4⟩ | ⟨h1,rfl⟩
 · have hE:=qc h1 h3
   refine ⟨Sz hE (by show (ms.map toM).length<=30;rw [List.length_map];exact Ba h3) h4,fun d hd=>⟨h1,Sy hE h2 ((h4.mem _).1 (List.mem_map.2 ⟨d,hd,rfl⟩)),(Rh hE (h4.ok d hd)).1,ms,h3,h4.ok d hd⟩⟩
 exact ⟨U0,fun d hd=>by cases hd⟩
theorem Cw (h:¬ (Y3 fs/\Y1 n.data.toList=true)):¬ Y3 fs\/Y1 n.data.toList=false:=by
 by_cases ht:Y3 fs
 · exact .inr (by cases hn:Y1 n.data.toList;rfl;exact absurd ⟨ht,hn⟩ h)
 exact .inl ht
theorem dL (a:Option Addr) (cap:Nat) (fs:List F2) (nm:ByteArray) (w:World) (hl:fs.length<=1048576) (hs:∀ i,(fs.getD i L6).le 1048576) (hat:U3 w a fs) (hns:nm.size<=1048576) (hst:Std w):
 Calls prog 5 #[.agg #[.slice a fs.length cap],.string nm] w fun e w'=>(∃ v xs,e=.returned v/\V_ w.heap.size v xs w'/\VH fs nm (xs.map (·.d)))/\Below w.heap.size w w':=by
 by_cases h:Y3 fs/\Y1 nm.data.toList=true
 · obtain ⟨ms,hp⟩:=Ni fs
   refine (VK a cap fs ms nm w hat h.1 hp h.2 hst.vz hst.sh hst.mx hst.ten).mono ?_;rintro e w' ⟨⟨v,e1,xs,h1,h2⟩,h3⟩;exact ⟨⟨v,xs,e1,h1,.inl ⟨h.1,h.2,ms,hp,h2⟩⟩,h3⟩
 refine (aL a cap fs nm w hl hs hat hns (Cw h)).mono ?_;rintro e w' ⟨⟨v,e1,h1⟩,h3⟩;exact ⟨⟨v,[],e1,h1,.inr ⟨Cw h,rfl⟩⟩,h3⟩
theorem GK (a:Option Addr) (cap:Nat) (fs:List F2) (nm:ByteArray) (w:World) (hl:fs.length<=1048576) (hs:∀ i,(fs.getD i L6).le 1048576) (hat:U3 w a fs) (hns:nm.size<=1048576):
 Calls prog 9 #[.agg #[.slice a fs.length cap],.string nm] w fun e w'=>(∃ v xs,e=.returned v/\V_ w.heap.size v xs w'/\VH fs nm (xs.map (·.d)))/\Below w.heap.size w w':=by
 by_cases h:Y3 fs/\Y1 nm.data.toList=true
 · obtain ⟨ms,hp⟩:=Ni fs
   refine (kL a cap fs ms nm w hat h.1 hp h.2).mono ?_;rintro e w' ⟨⟨v,e1,xs,h1,h2⟩,h3⟩;exact ⟨⟨v,xs,e1,h1,.inl ⟨h.1,h.2,ms,hp,h2⟩⟩,h3⟩
 refine (iL a cap fs nm w hl hs hat hns (Cw h)).mono ?_;rintro e w' ⟨⟨v,e1,h1⟩,h3⟩;exact ⟨⟨v,[],e1,h1,.inr ⟨Cw h,rfl⟩⟩,h3⟩
theorem Std.below {w w':World} (h:Std w) (hb:Below w.heap.size w w'):Std w':=⟨h.vz.below hb,F7 h.sh hb,P8 h.mx hb,Nat.le_trans h.ten hb.size⟩
end Go.Proofs.YtdpoaadafcaffaaGreatDoor
