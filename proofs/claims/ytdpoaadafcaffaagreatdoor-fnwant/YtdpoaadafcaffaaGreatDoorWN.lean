import Derived.Test.YtdpoaadafcaffaaGreatDoorWL
set_option linter.unusedVariables false
set_option maxHeartbeats 8000000
set_option maxRecDepth 100000
namespace Go.Proofs.YtdpoaadafcaffaaGreatDoor
open Proofs.Tryz
open Go.RowKit
structure DS (q P:Nat) (w:World) (v:Value) (u:World):Prop where
 rd:o8 u q P
 bu:But q w u
 qw:q<w.heap.size
 h1:Cl u w.heap.size 25 [.slice none 0 0]
 h2:Cl u (w.heap.size+1) 25 [v]
 tr:di 40 u v
 kn:∀ k,v.ownBlock=some k->w.heap.size<=k
variable {q P P':Nat} {w u u':World} {v v':Value}
theorem DS.call (h:DS q P w v u) (hr:o8 u' q P') (hb:But q u u'):DS q P' w v u':=by
 have:=h.qw;exact ⟨hr,h.bu.trans hb,h.qw,(hb.block _ h.h1.lt O0).trans h.h1,(hb.block _ h.h2.lt O0).trans h.h2,h.tr.but hb (fun k e=>by have:=h.kn k e;omega),h.kn⟩
theorem DS.later (h:DS q P w v u) (hb:Below u.heap.size u u'):DS q P w v u':=h.call (h.rd.later hb) (But.of_below hb)
theorem DS.Sn (h:DS q P w v u) (hp:P<=P'):DS q P' w v u:=h.call (h.rd.mono hp) (But.refl _ _)
theorem DS.UG (h:DS q P w v u) (hv:v'=v\/∀ k,v'.ownBlock=some k->u.heap.size<=k):∀ k,v'.ownBlock=some k->w.heap.size<=k:=fun k e=>by
 rcases hv with rfl | hv
 · exact h.kn k e
 exact Nat.le_trans h.bu.size (hv k e)
theorem DS.put (h:DS q P w v u) (ht:di 40 u v') (hk:∀ k,v'.ownBlock=some k->w.heap.size<=k):DS q P w v' (u.setCell ⟨w.heap.size+1,0,none⟩ v'):=by
 have:=h.qw;obtain ⟨a,c,fs,rfl,_⟩:=h.tr;exact ⟨K8 h.rd O0 _ _,K7 h.bu O0 _ _,h.qw,h.h1.on (F8 _ _ _ _) O0,h.h2.set 0 _,Ci ht h.h2,hk⟩
def KC (B q P:Nat) (w:World) (e:Ending) (w':World):Prop:=(∃ v',e=.returned (.agg #[v'])/\di B w' v'/\∀ k,v'.ownBlock=some k->w.heap.size<=k)/\o8 w' q P/\But q w w'
theorem kF (h:DS q (P+1500) w v u) (ht:di 40 u v') (hk:∀ k,v'.ownBlock=some k->w.heap.size<=k) (tm:Array Value) (h2:tm[2]?=some (.pointer (some ⟨w.heap.size,0,none⟩))):bodyPost prog f30 (KC 40 q (P+1500) w) .ret ⟨tm,[]⟩ (u.setCell ⟨w.heap.size,0,none⟩ v'):=by
 have er:=World.cell?_setCell_same u ⟨w.heap.size,0,none⟩ v' (h.h1.cell 0);have:=h.qw;exact bodyPost_ret (v:=.agg #[v']) (by simp [results,Tryz.results30,go_sem,er,h2]) rfl ⟨⟨v',rfl,Ci ht h.h1,hk⟩,K8 h.rd O0 _ _,K7 h.bu Q8 _ _⟩
theorem Uh (is:List I3):(K3 (Bb is)).size<=300:=by
 rw [Y2];unfold Bb;split
 · rename_i h;exact h.2
 simp
theorem Xq (is:List M3):(K3 (G.Ka is)).size<=300:=by
 rw [Y2];unfold G.Ka;split
 · rename_i h;exact h.2
 simp
theorem mk_le {ms:List M3} (h:∀ x∈ms,x.le 4000) (i:Nat):(ms.getD i X6).le 1048576:=by
 rcases Nat.lt_or_ge i ms.length with hi | hi
 · rw [show ms.getD i X6=ms[i] from by simp [List.getD,hi]]
   have:=h _ (List.getElem_mem hi);exact ⟨Nat.le_trans this.1 O0,Nat.le_trans this.2.1 O0,Nat.le_trans this.2.2 O0⟩
 rw [show ms.getD i X6=X6 from by simp [List.getD,hi]];exact ⟨J3,J3,J3⟩
theorem Tv {w:World} {base:Nat} {v:Value} {ms:List M3} (h:w.ownsRow base 35 3 v ms.length (G.F5 ms)):∃ a c,v=.slice a ms.length c/\G.Ab w a ms:=G.U6 h
theorem qC {w:World} {base:Nat} {e:TypeId} {size n:Nat} {v:Value} {xs:List Value} (h:w.ownsRow base e size v n xs):Src w v size n xs:=by
 rcases h.2 with ⟨rfl,h2⟩ | ⟨g,cap,cur,rfl,hb,hg,hnc,hcm,hcs,htk⟩
 · have h1:=h.1
   subst h2;exact .inl ⟨⟨0,rfl⟩,rfl,List.length_eq_zero_iff.1 (by rw [h1];simp)⟩
 refine .inr ⟨⟨g,0,none⟩,cap,rfl,h.1,fun j u e=>?_⟩;rw [<- htk,List.getElem?_take] at e;split at e
 · rw [Addr.add_lit,Lib.cell_of_heap hg,<- e];simp
 cases e
theorem zC {w:World} {base:Nat} {e:TypeId} {size n m c:Nat} {a:Option Addr} {xs:List Value} (h:w.ownsRow base e size (.slice a m c) n xs) (hn:0<n):∃ g,a=some ⟨g,0,none⟩:=by
 rcases h.2 with ⟨_,h⟩ | ⟨g,_,_,h,_⟩
 · omega
 injection h with h _ _;exact ⟨g,h⟩
theorem mk_one (ms:List M3):∀ v∈G.F5 ms,v.oneCell'=true:=fun v hv=>by
 obtain ⟨x,_,h⟩:=List.mem_flatMap.1 hv;simp at h;rcases h with rfl | rfl | rfl <;> rfl
def MR (n:Nat) (xs:List Value):Prop:=xs.length=n*3/\∀ v∈xs,Fp 4000 v=true
theorem MR.get {n j:Nat} {xs:List Value} (h:MR n xs) (hj:j<n*3):∃ s:ByteArray,xs[j]?=some (.string s)/\s.size<=4000:=by
 have hl:j<xs.length:=by rw [h.1];exact hj
 obtain ⟨s,e,hs⟩:=J8.1 (h.2 _ (List.getElem_mem hl));exact ⟨s,by rw [List.getElem?_eq_getElem hl,e],hs⟩
theorem MR.set {n:Nat} {xs:List Value} (h:MR n xs) (j:Nat) {s:ByteArray} (hs:s.size<=4000):MR n (xs.set j (.string s)):=
 ⟨by rw [List.length_set];exact h.1,fun v hv=>by
  rcases List.mem_or_eq_of_mem_set hv with h1 | h1
  · exact h.2 v h1
  rw [h1];exact J8.2 ⟨s,rfl,hs⟩⟩
theorem YG {ms:List M3} (h:∀ x∈ms,x.le 4000):MR ms.length (G.F5 ms):=⟨by induction ms <;> simp_all [G.F5];omega,fun v hv=>by
 obtain ⟨x,hx,h1⟩:=List.mem_flatMap.1 hv;simp at h1;rcases h1 with rfl | rfl | rfl
 · exact J8.2 ⟨_,rfl,(h x hx).1⟩
 · exact J8.2 ⟨_,rfl,(h x hx).2.1⟩
 exact J8.2 ⟨_,rfl,(h x hx).2.2⟩⟩
theorem gG {ms:List M3} (h:∀ x∈ms,x.le 4000):MR (1+ms.length) (G.F5 [⟨⟨#[119]⟩,⟨#[116,48]⟩,⟨#[97]⟩⟩]++G.F5 ms):=by
 have:=YG (ms:=⟨⟨#[119]⟩,⟨#[116,48]⟩,⟨#[97]⟩⟩::ms) (fun x hx=>by
  rcases List.mem_cons.1 hx with rfl | hx
  · exact ⟨J3,J3,J3⟩
  exact h x hx)
 rw [List.length_cons,Nat.add_comm] at this;exact this
theorem MR.mk:∀ {n:Nat} {xs:List Value},MR n xs->∃ ms:List M3,ms.length=n/\xs=G.F5 ms/\∀ x∈ms,x.le 4000
 | 0,xs,h=>⟨[],rfl,by simpa [G.F5] using h.1,fun x h=>nomatch h⟩
 | n+1,[],h=>by simp [MR] at h
 | n+1,[_],h=>by have:=h.1;simp at this;omega
 | n+1,[_,_],h=>by have:=h.1;simp at this;omega
 | n+1,x::y::z::r,h=>by
  obtain ⟨a,rfl,ha⟩:=J8.1 (h.2 x U0);obtain ⟨b,rfl,hb⟩:=J8.1 (h.2 y U0);obtain ⟨c,rfl,hc⟩:=J8.1 (h.2 z U0);obtain ⟨gs,h1,h2,h3⟩:=MR.mk (n:=n) (xs:=r) ⟨by have:=h.1;simp at this;omega,fun v hv=>h.2 v (by simp [hv])⟩;exact ⟨⟨a,b,c⟩::gs,by simp [h1],by rw [h2];rfl,fun x hx=>by rcases List.mem_cons.1 hx with rfl | hx;exact ⟨ha,hb,hc⟩;exact h3 x hx⟩
theorem AL (q P:Nat) (w:World) (hp:P<=10000) (hr:o8 w q P):
 Calls prog 30 #[.pointer (some ⟨q,0,none⟩)] w fun e w'=>KC 40 q (P+1500) w e w':=by
 have HR:=J5 hr;have hq:=hr.lt;clear hr;go_enter func30,ntmps30
 go_wp2_with fail
 go_loopw [4] (fun i wr=>∃ (k:Nat) (v:Value),i=.int .i64 k/\k<=3/\Hid (DS q (P+3*k) w v wr)) (fun i _=>3 - (intOf i).toNat)
 case atStart=>
  have hb:Below w.heap.size w ((w.alloc (.cells #[.slice none 0 0] 25)).alloc (.cells #[.slice none 0 0] 25)):=bC _ _ _;exact ⟨0,.slice none 0 0,rfl,O0,⟨HR.out.later hb,But.of_below hb,hq,B_ (F3 w [_] 25) _,qg (xs:=[_]) U0,⟨none,0,[],rfl,.inl rfl,U0,fun x h=>nomatch h⟩,fun k e=>nomatch e⟩⟩
 case round=>
  obtain ⟨k,v,rfl,hk,H⟩:=hrel;by_cases hlt:k<3
  · go_wp2_with fail
    refine (K6 wr q (P+3*k) 8 O0 O0 O0 H.out.rd).mono ?_;rintro e y1 ⟨⟨r,rfl,r0,r1⟩,hr,ho⟩;have H1:=J5 (H.out.call hr ho.but);clear H hr ho;by_cases hr0:0<r;rotate_left
    · go_wp2
      go_roundw
      case rel=>exact ⟨k+1,v,by go_num,O0,H1.out.Sn O0⟩
      case measure=>simp [intOf];omega
    obtain ⟨nm,hn1,hn2,hns⟩:∃ nm:ByteArray,(∀ u,(Instr.slice 9 (.string ⟨#[97,98,99]⟩) (some (.int .i64 (k:Int))) none none).run prog u=.ok (.string ((⟨#[97,98,99]⟩:ByteArray).extract k 3)) u)/\(∀ u,(Instr.slice 9 (.string ((⟨#[97,98,99]⟩:ByteArray).extract k 3)) none (some (.int .i64 1)) none).run prog u=.ok (.string nm) u)/\nm.size<=4000:=by
     obtain rfl | rfl | rfl:k=0\/k=1\/k=2:=O0
     · exact ⟨⟨#[97]⟩,fun u=>I1,fun u=>I1,J3⟩
     · exact ⟨⟨#[98]⟩,fun u=>I1,fun u=>I1,J3⟩
     exact ⟨⟨#[99]⟩,fun u=>I1,fun u=>I1,J3⟩
    go_wp2_with fail
    refine P7 (S:=fun u=>u.cell? ⟨w.heap.size+1,0,none⟩=some v) 7 I1 (H1.out.h2.cell 0) fun hH=>?_;obtain ⟨y2,hy⟩:∃ y:World,y=y1.drew:=⟨_,rfl⟩;rw [<- hy] at hH ⊢;have H2:=J5 (H1.out.later (u':=y2) (by rw [hy];exact (Below.refl _ _).drew));clear hy H1;refine lq 0 hH ?_;refine lq 1 hH ?_
    try simp only [qq]
    refine lq 2 hH ?_
    try simp only [qq]
    refine lq 3 hH ?_;refine lq 4 hH ?_
    try simp only [qq]
    refine lr (i:=5) (o:=⟨some 22,.call ⟨.value (.func 57),#[.tmp 21],#[47]⟩,9,_,_,none⟩) rfl J3 I1 fun K hK=>?_;go_simp;refine (uI q (P+3*k+1) y2 O0 H2.out.rd).mono ?_;rintro e y3 ⟨⟨x,rfl,hx⟩,hr,hb⟩;have H3:=J5 (H2.out.call hr hb);clear H2 hr hb hH;go_simp;refine hK.out _ _ (H3.out.h2.cell 0) fun hH=>?_;clear hK K
    try simp only [qq]
    refine lr (i:=6) (o:=⟨some 23,.call ⟨.value (.func 56),#[.tmp 17,.tmp 20,.tmp 22],#[25,9,9]⟩,25,_,_,none⟩) rfl J3 I1 fun K hK=>?_;go_simp;refine (RG v nm x y3 H3.out.tr hns O0).mono ?_;rintro e y4 ⟨⟨v',rfl,ht,hv⟩,hb⟩;have hk':=H3.out.UG hv;have H4:=J5 (H3.out.later hb);have H5:=J5 (H4.out.put ht hk');obtain ⟨a1,c1,f1,hv1,_⟩:=ht;obtain ⟨a2,c2,f2,hv2,_⟩:=H4.out.tr;subst hv1 hv2;clear H3 hb hH hv;go_simp;refine hK.out _ _ (H4.out.h2.cell 0) fun hH=>?_;clear hK K
    try simp only [qq]
    refine lz (o:=⟨none,.store 25 (.tmp 3) (.tmp 23),0,_,_,none⟩) rfl I1 fun K hK=>?_;have z2:=H4.out.h2.cell 0;have zf:=H4.out.h2.opn 0;dsimp only [List.getElem?_cons_zero] at z2;go_simp;clear hH;refine hK.out _ _ ?_;clear hK K
    try simp only [qq]
    refine F9 I1 ?_ _;go_wp2;go_roundw
    case rel=>exact ⟨k+1,_,by go_num,O0,H5.out.Sn O0⟩
    case measure=>simp [intOf];omega
  go_wp2_with fail
  go_loopw [5,6] (fun i s wr=>∃ (k:Nat) (x:ByteArray) (v:Value),i=.int .i64 k/\k<=4/\Hid (DS q (P+9+70*k) w v wr)) (fun i _ _=>4 - (intOf i).toNat)
  case atStart=>exact ⟨0,⟨#[]⟩,v,rfl,O0,H.out.Sn O0⟩
  case round=>
   clear H;obtain ⟨k,_,v,rfl,hk,H⟩:=hrel;have mark:=trivial;have MM:=trivial;by_cases hlt:k<4;rotate_left
   · go_wp2_with fail
     clear mark;refine (K6 wr q (P+9+70*k) 8 O0 O0 O0 H.out.rd).mono ?_;rintro e y1 ⟨⟨r,rfl,r0,r1⟩,hr,ho⟩;have H1:=J5 ((H.out.call hr ho.but).Sn (P':=P+300) O0);clear H hr ho;rcases Classical.em (r=0) with hr0 | hr0;rotate_left
     · have hrb:(r==0)=false:=by simpa using hr0
       go_wp2_with fail
       refine (dK q (P+300) y1 O0 H1.out.rd).mono ?_;rintro e y2 ⟨v2,ms,rfl,hm,hml⟩;have H2:=J5 (H1.out.call hm.rd hm.bu);obtain ⟨ma,mc,rfl,hat⟩:=Tv hm.row;have HA:=J5 hat;have HS:=J5 hm.sm;clear H1 hm hat
       go_wp2_with fail
       refine (G.GJ ma mc ms y2 (mk_le HS.out) O0 HA.out).mono ?_;rintro e y3 ⟨rfl,hb⟩;have H3:=J5 (H2.out.later hb);have hf:=Xq ms;clear H2 hb HA HS;generalize K3 (G.Ka ms)=s at*
       go_wp2_with fail
       refine (K6 y3 q (P+380) 24 O0 O0 O0 H3.out.rd).mono ?_;rintro e y4 ⟨⟨r4,rfl,r40,r41⟩,hr,ho⟩;have H4:=J5 (H3.out.call hr ho.but);clear H3 hr ho;rcases Classical.em (r4=0) with hr4 | hr4
       case' inl=>
        subst hr4
        go_wp2_with fail
        refine (c64 q (P+381) s y4 O0 O0 H4.out.rd).mono ?_;rintro e y5 ⟨⟨s5,rfl,hs5⟩,hr,hb⟩;have H5:=J5 (H4.out.call hr hb);clear H4 hr hb;revert MM
       case' inr=>
        have a3O:(r4==0)=false:=by simpa using hr4
        have H5:=J5 (H4.out.Sn (P':=P+384) O0);have hs5:s.size<=2010:=O0;clear H4;generalize y4=y5 at*;generalize s=s5 at*;revert MM
       all_goals
        intro _;obtain ⟨a2,c2,f2,hv2,_⟩:=H5.out.tr;subst hv2;have dX:=H5.out.h2.cell 0;dsimp only [List.getElem?_cons_zero] at dX
        go_wp2_with fail
        refine (RG _ ⟨#[112,108,97,110]⟩ s5 y5 H5.out.tr J3 O0).mono ?_;rintro e y6 ⟨⟨v',rfl,ht,hv⟩,hb⟩;have hk':=H5.out.UG hv;have H6:=J5 (H5.out.later hb);have HT:=J5 ht;obtain ⟨a1,c1,f1,hv1,_⟩:=ht;subst hv1;have d1:=H6.out.h1.cell 0;have e1:=H6.out.h1.opn 0;dsimp only [List.getElem?_cons_zero] at d1;clear H5 hb hv dX;go_wp2;exact kF (H6.out.Sn O0) HT.out hk' _ rfl
     subst hr0
     go_wp2_with fail
     refine P7 (S:=fun u=>u.cell? ⟨w.heap.size+1,0,none⟩=some v) 6 I1 (H1.out.h2.cell 0) fun hH=>?_;obtain ⟨y2,hy⟩:∃ y:World,y=y1.drew:=⟨_,rfl⟩;rw [<- hy] at hH ⊢;have H2:=J5 (H1.out.later (u':=y2) (by rw [hy];exact (Below.refl _ _).drew));clear hy H1;refine lq 0 hH ?_;refine lq 1 hH ?_
     try simp only [qq]
     refine lr (i:=2) (o:=⟨some 59,.call ⟨.value (.func 31),#[.tmp 58,.const (.int .i64 5)],#[47,3]⟩,3,_,_,none⟩) rfl J3 I1 fun K hK=>?_;go_simp;refine (K6 y2 q (P+300) 5 O0 O0 O0 H2.out.rd).mono ?_;rintro e y3 ⟨⟨r3,rfl,r30,r31⟩,hr,ho⟩;have H3:=J5 (H2.out.call hr ho.but);clear H2 hr ho hH;go_simp;refine hK.out _ _ (H3.out.h2.cell 0) fun hH=>?_;clear hK K
     try simp only [qq]
     refine lr (i:=3) (o:=⟨some 60,.call ⟨.value (.func 60),#[.tmp 59],#[3]⟩,109,_,_,none⟩) rfl J3 I1 fun K hK=>?_;go_simp;refine (nJ r3 y3).mono ?_;rintro e y4 ⟨⟨T,a,cap,rfl,hT,UT,hTs⟩,hb⟩;have H4:=J5 (H3.out.later hb);have HT:=J5 hT.to;have vS:=J5 hTs;clear H3 hb hT hTs hH;go_simp;refine hK.out _ _ (H4.out.h2.cell 0) fun hH=>?_;clear hK K
     try simp only [qq]
     refine lr (i:=4) (o:=⟨some 61,.call ⟨.value (.func 58),#[.tmp 60],#[109]⟩,9,_,_,none⟩) rfl J3 I1 fun K hK=>?_;go_simp;refine (gy a cap T y4 (fun i=>Nat.le_trans (vS.out i) O0) O0 HT.out).mono ?_;rintro e y5 ⟨rfl,hb⟩;have H5:=J5 (H4.out.later hb);have hf:=Uh T;clear H4 hb HT vS hH;generalize K3 (Bb T)=s at*;go_simp;refine hK.out _ _ (H5.out.h2.cell 0) fun hH=>?_;clear hK K
     try simp only [qq]
     refine lr (i:=5) (o:=⟨some 62,.call ⟨.value (.func 56),#[.tmp 57,.const (.string ⟨#[97]⟩),.tmp 61],#[25,9,9]⟩,25,_,_,none⟩) rfl J3 I1 fun K hK=>?_;go_simp;refine (RG v ⟨#[97]⟩ s y5 H5.out.tr J3 O0).mono ?_;rintro e y6 ⟨⟨v6,rfl,ht,hv⟩,hb⟩;have hk':=H5.out.UG hv;have H6:=J5 (H5.out.later hb);have H7:=J5 (H6.out.put ht hk');obtain ⟨a1,c1,f1,hv1,_⟩:=ht;obtain ⟨a2,c2,f2,hv2,_⟩:=H6.out.tr;subst hv1 hv2;clear H5 hb hH hv hk';go_simp;refine hK.out _ _ (H6.out.h2.cell 0) fun hH=>?_;clear hK K
     try simp only [qq]
     refine lz (o:=⟨none,.store 25 (.tmp 3) (.tmp 62),0,_,_,none⟩) rfl I1 fun K hK=>?_;have q2:=H6.out.h2.cell 0;have qf:=H6.out.h2.opn 0;dsimp only [List.getElem?_cons_zero] at q2;go_simp;clear hH;refine hK.out _ _ ?_;clear hK K q2 qf H6
     try simp only [qq]
     refine F9 I1 ?_ _;generalize (y6.setCell _ _)=y7 at*;generalize (Value.slice a1 f1.length c1)=v7 at H7
     go_wp2_with fail
     refine P7 (S:=fun u=>u.cell? ⟨w.heap.size+1,0,none⟩=some v7) 9 I1 (H7.out.h2.cell 0) fun hH=>?_;obtain ⟨z0,hy⟩:∃ y:World,y=y7.drew:=⟨_,rfl⟩;rw [<- hy] at hH ⊢;have G0:=J5 (H7.out.later (u':=z0) (by rw [hy];exact (Below.refl _ _).drew));clear hy H7;refine lq 0 hH ?_
     try simp only [qq]
     refine lr (i:=1) (o:=⟨some 64,.call ⟨.value (.func 61),#[.const (.int .i64 2)],#[3]⟩,121,_,_,none⟩) rfl J3 I1 fun K hK=>?_;go_simp;refine (Pw 2 z0).mono ?_;rintro e z1 ⟨rfl,hb⟩;have G1:=J5 (G0.out.later hb);clear G0 hb hH;go_simp;refine hK.out _ _ (G1.out.h2.cell 0) fun hH=>?_;clear hK K
     try simp only [qq]
     refine lr (i:=2) (o:=⟨some 65,.call ⟨.value (.func 61),#[.const (.int .i64 3)],#[3]⟩,121,_,_,none⟩) rfl J3 I1 fun K hK=>?_;go_simp;refine (Pw 3 z1).mono ?_;rintro e z2 ⟨rfl,hb⟩;have G2:=J5 (G1.out.later hb);clear G1 hb hH;go_simp;refine hK.out _ _ (G2.out.h2.cell 0) fun hH=>?_;clear hK K
     try simp only [qq]
     refine lr (i:=3) (o:=⟨some 66,.call ⟨.value (.func 61),#[.const (.int .i64 5)],#[3]⟩,121,_,_,none⟩) rfl J3 I1 fun K hK=>?_;go_simp;refine (Pw 5 z2).mono ?_;rintro e z3 ⟨rfl,hb⟩;have G3:=J5 (G2.out.later hb);clear G2 hb hH;go_simp;refine hK.out _ _ (G3.out.h2.cell 0) fun hH=>?_;clear hK K
     try simp only [qq]
     refine lr (i:=4) (o:=⟨some 67,.call ⟨.value (.func 61),#[.const (.int .i64 10)],#[3]⟩,121,_,_,none⟩) rfl J3 I1 fun K hK=>?_;go_simp;refine (Pw 10 z3).mono ?_;rintro e z4 ⟨rfl,hb⟩;have G4:=J5 (G3.out.later hb);clear G3 hb hH;go_simp;refine hK.out _ _ (G4.out.h2.cell 0) fun hH=>?_;clear hK K
     try simp only [qq]
     refine lr (i:=5) (o:=⟨some 68,.buildSlice 107 4 #[(0,.tmp 64),(1,.tmp 65),(2,.tmp 66),(3,.tmp 67)],107,_,_,none⟩) rfl J3 I1 fun K hK=>?_;go_simp;obtain ⟨z5,IQ⟩:∃ y:World,y=z4.alloc (.cells (D5 [⟨2,⟨#[]⟩,0⟩,⟨3,⟨#[]⟩,0⟩,⟨5,⟨#[]⟩,0⟩,⟨10,⟨#[]⟩,0⟩]).toArray 121):=⟨_,rfl⟩;change K _ (z4.alloc (.cells (D5 [⟨2,⟨#[]⟩,0⟩,⟨3,⟨#[]⟩,0⟩,⟨5,⟨#[]⟩,0⟩,⟨10,⟨#[]⟩,0⟩]).toArray 121));rw [<- IQ];have G5:=J5 (G4.out.later (u':=z5) (by rw [IQ];exact bA));have IA:Hid (t_ z5 (some ⟨z4.heap.size,0,none⟩) [⟨2,⟨#[]⟩,0⟩,⟨3,⟨#[]⟩,0⟩,⟨5,⟨#[]⟩,0⟩,⟨10,⟨#[]⟩,0⟩]):=by show t_ _ _ _;rw [IQ];exact dE z4 _
     clear IQ G4 hH;refine hK.out _ _ (G5.out.h2.cell 0) fun hH=>?_;clear hK K
     try simp only [qq]
     refine lq 6 hH ?_
     try simp only [qq]
     refine lr (i:=7) (o:=⟨some 70,.call ⟨.value (.func 58),#[.tmp 69],#[109]⟩,9,_,_,none⟩) rfl J3 I1 fun K hK=>?_;go_simp;refine (gy (some ⟨z4.heap.size,0,none⟩) 4 [⟨2,⟨#[]⟩,0⟩,⟨3,⟨#[]⟩,0⟩,⟨5,⟨#[]⟩,0⟩,⟨10,⟨#[]⟩,0⟩] z5 (fun i=>Nat.le_trans (T9 (T:=[⟨2,⟨#[]⟩,0⟩,⟨3,⟨#[]⟩,0⟩,⟨5,⟨#[]⟩,0⟩,⟨10,⟨#[]⟩,0⟩]) rfl i) O0) J3 IA.out).mono ?_;rintro e z6 ⟨rfl,hb⟩;have G6:=J5 (G5.out.later hb);have hf6:=Uh [⟨2,⟨#[]⟩,0⟩,⟨3,⟨#[]⟩,0⟩,⟨5,⟨#[]⟩,0⟩,⟨10,⟨#[]⟩,0⟩];clear G5 hb IA hH;generalize K3 (Bb [⟨2,⟨#[]⟩,0⟩,⟨3,⟨#[]⟩,0⟩,⟨5,⟨#[]⟩,0⟩,⟨10,⟨#[]⟩,0⟩])=s6 at*;go_simp;refine hK.out _ _ (G6.out.h2.cell 0) fun hH=>?_;clear hK K
     try simp only [qq]
     refine lr (i:=8) (o:=⟨some 71,.call ⟨.value (.func 56),#[.tmp 63,.const (.string ⟨#[116,48]⟩),.tmp 70],#[25,9,9]⟩,25,_,_,none⟩) rfl J3 I1 fun K hK=>?_;go_simp;refine (RG v7 ⟨#[116,48]⟩ s6 z6 G6.out.tr J3 O0).mono ?_;rintro e z7 ⟨⟨v8,rfl,ht,hv⟩,hb⟩;have hk':=G6.out.UG hv;have G7:=J5 (G6.out.later hb);have G8:=J5 (G7.out.put ht hk');obtain ⟨a3,c3,f3,hv3,_⟩:=ht;obtain ⟨a4,c4,f4,hv4,_⟩:=G7.out.tr;subst hv3 hv4;clear G6 hb hH hv hk';go_simp;refine hK.out _ _ (G7.out.h2.cell 0) fun hH=>?_;clear hK K
     try simp only [qq]
     refine lz (o:=⟨none,.store 25 (.tmp 3) (.tmp 71),0,_,_,none⟩) rfl I1 fun K hK=>?_;have q2:=G7.out.h2.cell 0;have qf:=G7.out.h2.opn 0;dsimp only [List.getElem?_cons_zero] at q2;go_simp;clear hH;refine hK.out _ _ ?_;clear hK K q2 qf G7
     try simp only [qq]
     refine F9 I1 ?_ _;generalize (z7.setCell _ _)=z8 at*;generalize hv9:(Value.slice a3 f3.length c3)=v9 at G8;clear hv9;obtain ⟨z9,hz9⟩:∃ y:World,y=z8.alloc (.cells #[.string ⟨#[119]⟩,.string ⟨#[116,48]⟩,.string ⟨#[97]⟩] 35):=⟨_,rfl⟩;have b9:Below z8.heap.size z8 z9:=by rw [hz9];exact bA
     have G9:=J5 (G8.out.later b9);have RW:Hid (z9.ownsRow z8.heap.size 35 3 (.slice (some ⟨z8.heap.size,0,none⟩) 1 1) 1 (G.F5 [⟨⟨#[119]⟩,⟨#[116,48]⟩,⟨#[97]⟩⟩])):=by show World.ownsRow _ _ _ _ _ _ _;rw [hz9];exact ⟨rfl,.inr ⟨_,1,_,rfl,Nat.le_refl _,heap_alloc_new z8 _,Nat.le_refl _,J3,rfl,rfl⟩⟩
     go_wp2_with fail
     rw [<- hz9];clear hz9;have hq8:=G8.out.rd.lt;refine (dK q (P+301) z9 O0 G9.out.rd).mono ?_;rintro e z10 ⟨v10,ms,rfl,hm,hml⟩;have B10:=J5 ((But.of_below b9).trans hm.bu);have RD:=J5 hm.rd;have R10:=J5 (Ph RW.out hm.bu hq8);have SM:=J5 (qC hm.row);have HSM:=J5 hm.sm;clear hm RW G9 b9;obtain ⟨ma,mc,UW⟩:∃ a c,v10=.slice a ms.length c:=by
      rcases SM.out with ⟨⟨c,h⟩,h2,_⟩ | ⟨ad,c,h,_⟩
      · exact ⟨none,c,by rw [h,h2]⟩
      exact ⟨some ad,c,h⟩
     subst UW
     go_wp2_with (at_builtin;refine Kc rfl _ _ 84 rfl z8.heap.size 35 3 underlying84 iF J3 _ 1 _ rfl R10.out _ ms.length (G.F5 ms) rfl SM.out (mk_one ms) O0 B10.out.size ?_;intro v11 z11 O2 g2 hn2;have AU:=Vf (Below.refl z8.heap.size z10) g2 B10.out.size (fun j e=>(R10.out.lt j e).1);have G11:=J5 (G8.out.call (RD.out.Q9 AU hq8) (B10.out.Q9 AU Q8));have BU:=J5 (B10.out.Q9 AU Q8);have fZ:=J5 O2;obtain ⟨na,nc,rfl⟩:=Lb O2;obtain ⟨g,rfl⟩:=zC O2 O0;have hsr:=J5 (gG HSM.out);obtain ⟨s0,hs0,_⟩:=hsr.out.get (j:=ms.length*3+1) O0;have cg:=(fZ.out.cellAt (ms.length*3+1) O0).trans hs0;have fg:=fZ.out.frozenAt (ms.length*3+1);clear O2 g2 hn2 AU)
     obtain ⟨k1,k2⟩:=fZ.out.stored (ms.length*3+1) (.string ⟨#[119]⟩);obtain ⟨ms2,hm1,hm2,hm3⟩:=(hsr.out.set (ms.length*3+1) (s:=⟨#[119]⟩) J3).mk;have OX:=Vf (v:=.slice (some ⟨g,0,none⟩) (1+ms.length) nc) (Below.refl z8.heap.size z11) k2 (by have:=G11.out.h2.lt;have:=(fZ.out.lt g rfl);omega) (fun j e=>(fZ.out.lt j e).1);have G12:=J5 (G8.out.call (G11.out.rd.Q9 OX hq8) (BU.out.Q9 OX Q8));have MA:Hid (∀ u,But q (z11.setCell ⟨g,ms.length*3+1,none⟩ (.string ⟨#[119]⟩)) u->G.Ab u (some ⟨g,0,none⟩) ms2):=fun u hu=>by
      rw [hm2,<- hm1] at k1;obtain ⟨a,c,e1,e2⟩:=Tv (Ph k1 hu hq8);injection e1 with e1 _ _;rw [e1];exact e2
     clear k1 k2 hm2 fZ G11 BU OX hsr cg fg;generalize (z11.setCell _ _)=z12 at*;rw [<- hm1];have hm4:ms2.length<=10:=O0;clear G8 hm1;refine wp_region_held_drew (S:=fun u=>u.cell? ⟨w.heap.size+1,0,none⟩=some v9) I1 (G12.out.h2.cell 0) fun hH=>?_;obtain ⟨z13,PX⟩:∃ y:World,y=z12.drew:=⟨_,rfl⟩;rw [<- PX] at hH ⊢;have bd:Below z12.heap.size z12 z13:=by rw [PX];exact (Below.refl _ _).drew
     have G13:=J5 (G12.out.later bd);have MK:=J5 (MA.out z13 (But.of_below bd));clear PX G12 bd MA;refine tq 0 hH ?_;refine tq 1 hH ?_
     try simp only [qq]
     refine rq 2 fun K hK=>?_;go_simp;refine (G.GJ (some ⟨g,0,none⟩) nc ms2 z13 (mk_le hm3) O0 MK.out).mono ?_;rintro e z14 ⟨rfl,hb⟩;have G14:=J5 (G13.out.later hb);have a3P:=Xq ms2;clear G13 hb MK hH;generalize K3 (G.Ka ms2)=s14 at*;go_simp;refine hK.out _ _ (G14.out.h2.cell 0) fun hH=>?_;clear hK K
     try simp only [qq]
     refine rq 3 fun K hK=>?_;go_simp;refine (RG v9 ⟨#[112,108,97,110]⟩ s14 z14 G14.out.tr J3 O0).mono ?_;rintro e z15 ⟨⟨v15,rfl,ht,hv⟩,hb⟩;have hk':=G14.out.UG hv;have G15:=J5 (G14.out.later hb);have HT:=J5 ht;obtain ⟨a5,c5,f5,hv5,_⟩:=ht;subst hv5;clear G14 hb hH hv;go_simp;refine hK.out _ _ (G15.out.h2.cell 0) fun hH=>?_;clear hK K
     try simp only [qq]
     refine rq 4 fun K hK=>?_;have d1:=G15.out.h1.cell 0;have e1:=G15.out.h1.opn 0;dsimp only [List.getElem?_cons_zero] at d1;go_simp;have X1:=(G15.out.h2.on (F8 z15 w.heap.size 0 (.slice a5 f5.length c5)) O0).cell 0;clear hH;refine hK.out _ _ X1 fun hH=>?_;clear hK K
     try simp only [qq]
     refine wpAnyH_done I1 ?_ _;clear hH X1 d1 e1;go_wp2;exact kF (G15.out.Sn O0) HT.out hk' _ rfl
   go_wp2_with fail
   refine (c59 q (P+9+70*k) wr O0 H.out.rd).mono ?_;rintro e y1 ⟨⟨T,a,cap,rfl,hT,UT,hTs⟩,hr,hb⟩;have H1:=J5 (H.out.call hr hb);have HT:=J5 hT.to;have vS:=J5 hTs;clear H hr hb hT hTs
   go_wp2_with fail
   refine (gy a cap T y1 (fun i=>Nat.le_trans (vS.out i) O0) O0 HT.out).mono ?_;rintro e y2 ⟨rfl,hb⟩;have H2:=J5 (H1.out.later hb);have hf:=Uh T;clear H1 hb HT vS;generalize K3 (Bb T)=s at*
   go_wp2_with fail
   refine (K6 y2 q (P+9+70*k+60) 24 O0 O0 O0 H2.out.rd).mono ?_;rintro e y3 ⟨⟨r,rfl,r0,r1⟩,hr,ho⟩;have H3:=J5 (H2.out.call hr ho.but);clear H2 hr ho;rcases Classical.em (r=0) with hr0 | hr0
   case' inl=>
    subst hr0
    go_wp2_with fail
    refine (uI q (P+9+70*k+61) y3 O0 H3.out.rd).mono ?_;rintro e y4 ⟨⟨s2,rfl,hs2⟩,hr,hb⟩;have H4:=J5 ((H3.out.call hr hb).Sn (P':=P+9+70*k+63) O0);have hf:s2.size<=300:=O0;clear H3 hr hb hs2;generalize s2=s3 at*;revert mark
   case' inr=>
    have hrb:(r==0)=false:=by simpa using hr0
    have H4:=J5 (H3.out.Sn (P':=P+9+70*k+63) O0);clear H3;generalize y3=y4 at*;generalize s=s3 at*;revert mark
   all_goals
    intro _;rcases Classical.em (k=0) with hk0 | hk0
    case' inr=>
     have hkb:((k:Int)==0)=false:=by simpa using hk0
     have H7:=J5 (H4.out.Sn (P':=P+9+70*k+64) O0);clear H4;generalize y4=y7 at*;generalize s3=s4 at*;revert MM
    case' inl=>
     have hkb:((k:Int)==0)=true:=by simpa using hk0
     clear hk0
     go_wp2_with fail
     refine (K6 y4 q (P+9+70*k+63) 2 O0 O0 O0 H4.out.rd).mono ?_;rintro e y5 ⟨⟨r5,rfl,yI,r51⟩,hr,ho⟩;have H5:=J5 (H4.out.call hr ho.but);clear H4 hr ho;rcases Classical.em (r5=0) with hr5 | hr5
     case' inl=>
      subst hr5
      go_wp2_with fail
      refine (nJ 0 y5).mono ?_;rintro e y6 ⟨⟨T,a,cap,rfl,hT,UT,hTs⟩,hb⟩;have H6:=J5 (H5.out.later hb);have HT:=J5 hT.to;have vS:=J5 hTs;clear H5 hb hT hTs
      go_wp2_with fail
      refine (gy a cap T y6 (fun i=>Nat.le_trans (vS.out i) O0) O0 HT.out).mono ?_;rintro e y7 ⟨rfl,hb⟩;have H7:=J5 (H6.out.later hb);have hf:=Uh T;clear H6 hb HT vS;generalize K3 (Bb T)=s4 at*;revert MM
     case' inr=>
      have hrb:(r5==0)=false:=by simpa using hr5
      have H7:=J5 H5.out;clear H5;generalize y5=y7 at*;generalize s3=s4 at*;revert MM
   all_goals
    intro _
    go_wp2_with fail
    refine (K6 y7 q (P+9+70*k+64) 20 O0 O0 O0 H7.out.rd).mono ?_;rintro e y8 ⟨⟨r8,rfl,r80,r81⟩,hr,ho⟩;have H8:=J5 (H7.out.call hr ho.but);clear H7 hr ho;by_cases h8:0<r8;rotate_left
    · go_wp2
      go_roundw
      case rel=>exact ⟨k+1,⟨#[]⟩,v,by go_num,O0,H8.out.Sn O0⟩
      case measure=>simp [intOf];omega
    go_wp2_with fail
    refine P7 (S:=fun u=>u.cell? ⟨w.heap.size+1,0,none⟩=some v) 6 I1 (H8.out.h2.cell 0) fun hH=>?_;obtain ⟨y9,hy⟩:∃ y:World,y=y8.drew:=⟨_,rfl⟩;rw [<- hy] at hH ⊢;have H9:=J5 (H8.out.later (u':=y9) (by rw [hy];exact (Below.refl _ _).drew));clear hy H8;refine lq 0 hH ?_;refine lq 1 hH ?_;refine lq 4 hH ?_
    try simp only [qq]
    refine lr (i:=2) (o:=⟨some 50,.call ⟨.value (.func 33),#[.tmp 49],#[3]⟩,9,_,_,none⟩) rfl J3 I1 fun K hK=>?_;go_simp;have hk9:k<100:=O0;have hdl:(K3 (Lib.decDigits k)).size<=2:=by rw [Y2];exact Da k hk9
    refine (Np k y9 hk9).mono ?_;rintro e z1 ⟨rfl,hb⟩;have G1:=J5 (H9.out.later hb);clear H9 hb hH;generalize K3 (Lib.decDigits k)=dk at*;have hnn:¬9223372036854775807<1+dk.size:=O0;go_simp;refine hK.out _ _ (G1.out.h2.cell 0) fun hH=>?_;clear hK K
    try simp only [qq]
    refine lq 3 hH ?_
    try simp only [qq]
    generalize hnm:(⟨#[116]⟩++dk:ByteArray)=nm;have hns:nm.size<=4000:=by rw [<- hnm,ByteArray.size_append];have e1:ByteArray.size ⟨#[116]⟩=1:=rfl;omega
    clear hnm;refine lr (i:=5) (o:=⟨some 53,.call ⟨.value (.func 56),#[.tmp 48,.tmp 51,.tmp 52],#[25,9,9]⟩,25,_,_,none⟩) rfl J3 I1 fun K hK=>?_;go_simp;refine (RG v nm s4 z1 G1.out.tr hns O0).mono ?_;rintro e z2 ⟨⟨v',rfl,ht,hv⟩,hb⟩;have hk':=G1.out.UG hv;have G2:=J5 (G1.out.later hb);have G3:=J5 (G2.out.put ht hk');obtain ⟨a1,c1,f1,hv1,_⟩:=ht;obtain ⟨a2,c2,f2,hv2,_⟩:=G2.out.tr;subst hv1 hv2;clear G1 hb hH hv;go_simp;refine hK.out _ _ (G2.out.h2.cell 0) fun hH=>?_;clear hK K
    try simp only [qq]
    refine lz (o:=⟨none,.store 25 (.tmp 3) (.tmp 53),0,_,_,none⟩) rfl I1 fun K hK=>?_;have q2:=G2.out.h2.cell 0;have qf:=G2.out.h2.opn 0;dsimp only [List.getElem?_cons_zero] at q2;go_simp;clear hH;refine hK.out _ _ ?_;clear hK K
    try simp only [qq]
    refine F9 I1 ?_ _;go_wp2;go_roundw
    case rel=>exact ⟨k+1,⟨#[]⟩,_,by go_num,O0,G3.out.Sn O0⟩
    case measure=>simp [intOf];omega
end Go.Proofs.YtdpoaadafcaffaaGreatDoor
namespace Go.Proofs.YtdpoaadafcaffaaGreatDoor
open Proofs.Tryz
open Go.RowKit
theorem di.up {A B:Nat} {w:World} {v:Value} (h:di A w v) (hB:A<=B):di B w v:=by
 obtain ⟨a,c,fs,h1,h2,h3,h4⟩:=h;exact ⟨a,c,fs,h1,h2,Nat.le_trans h3 hB,h4⟩
theorem QE {q P:Nat} {w u:World} {v:Value} (hr:o8 u q P) (hb:But q w u) (hq:q<w.heap.size) (h1:Cl u w.heap.size 25 [.slice none 0 0]) (ht:di 60 u v) (hk:∀ k,v.ownBlock=some k->w.heap.size<=k) (tm:Array Value) (h2:tm[2]?=some (.pointer (some ⟨w.heap.size,0,none⟩))):bodyPost prog f14 (KC 60 q P w) .ret ⟨tm,[]⟩ (u.setCell ⟨w.heap.size,0,none⟩ v):=by
 have er:=World.cell?_setCell_same u ⟨w.heap.size,0,none⟩ v (h1.cell 0);exact bodyPost_ret (v:=.agg #[v]) (by simp [results,Tryz.results14,go_sem,er,h2]) rfl ⟨⟨v,rfl,Ci ht h1,hk⟩,K8 hr O0 _ _,K7 hb Q8 _ _⟩
theorem Kt {w w':World} {a:Option Addr} {L:Nat} (h:BytesAt w a L) (hb:Below w.heap.size w w'):BytesAt w' a L:=by
 rcases h with h | ⟨b,off,h1,h3⟩
 · exact .inl h
 exact .inr ⟨b,off,h1,fun i hi=>by obtain ⟨z,hz,e⟩:=h3 i hi;exact ⟨z,hz,(hb.cell (dh e)).trans e⟩⟩
theorem c14 (q P:Nat) (w:World) (hp:P<=1000) (hr:o8 w q P):
 Calls prog 14 #[.pointer (some ⟨q,0,none⟩)] w fun e w'=>KC 60 q (P+1506) w e w':=by
 have HR:=J5 hr;have hq:=hr.lt;clear hr;go_enter func14,ntmps14
 go_wp2_with fail
 obtain ⟨w0,hw0⟩:∃ y:World,y=w.alloc (.cells #[.slice none 0 0] 25):=⟨_,rfl⟩;rw [<- hw0];have b0:Below w.heap.size w w0:=by rw [hw0];exact bA
 have C0:Hid (Cl w0 w.heap.size 25 [.slice none 0 0]):=by show Cl _ _ _ _;rw [hw0];exact F3 w [_] 25
 clear hw0;refine (AL q P w0 O0 (HR.out.later b0)).mono ?_;rintro e w1 ⟨⟨v,rfl,ht,hk⟩,hr,hb⟩;have B1:=J5 ((But.of_below b0).trans hb);have C1:Hid (Cl w1 w.heap.size 25 [.slice none 0 0]):=(hb.block _ C0.out.lt O0).trans C0.out;have HK:Hid (∀ k,v.ownBlock=some k->w.heap.size<=k):=fun k e=>Nat.le_trans b0.size (hk k e);obtain ⟨w2,hw2⟩:∃ y:World,y=w1.alloc (.cells #[v] 25):=⟨_,rfl⟩;have b2:Below w1.heap.size w1 w2:=by rw [hw2];exact bA
 have CX:Hid (Cl w2 w1.heap.size 25 [v]):=by show Cl _ _ _ _;rw [hw2];exact F3 w1 [_] 25
 have R2:=J5 (hr.later b2);have B2:=J5 (B1.out.later b2);have T2:=J5 (ht.below b2);have C2:=J5 (C1.out.below b2 C1.out.lt);obtain ⟨a,c,fs,hv,_⟩:=ht;subst hv;have hz:=C1.out.lt;clear hr hb hk B1 C1 C0 b0 HR b2
 go_wp2_with fail
 rw [<- hw2];clear hw2;generalize w1.heap.size=X at*;refine (K6 w2 q (P+1500) 20 O0 O0 O0 R2.out).mono ?_;rintro e w3 ⟨⟨r,rfl,r0,r1⟩,hr,ho⟩;have R3:=J5 hr;have B3:=J5 (B2.out.trans ho.but);have T3:=J5 (T2.out.but ho.but (fun k e=>by have:=HK.out k e;omega));have C3:Hid (Cl w3 w.heap.size 25 [.slice none 0 0]):=(ho.block _ O0).trans C2.out;have CX3:Hid (Cl w3 X 25 [.slice a fs.length c]):=(ho.block _ O0).trans CX.out;clear hr ho R2 B2 T2 C2 CX;have dX:=CX3.out.cell 0;have dR:=C3.out.cell 0;have fR:=C3.out.opn 0;dsimp only [List.getElem?_cons_zero] at dX dR;rcases Classical.em (r=0) with h0 | h0;rotate_left
 · have hrb:(r==0)=false:=by simpa using h0
   go_wp2;exact QE (R3.out.mono O0) B3.out hq C3.out (T3.out.up O0) HK.out _ rfl
 subst h0
 go_wp2_with fail
 refine (c32 q (P+1501) _ w3 O0 R3.out T3.out).mono ?_;rintro e w4 ⟨⟨v4,rfl,ht4,hk4⟩,hr,hb⟩;have C4:Hid (Cl w4 w.heap.size 25 [.slice none 0 0]):=(hb.block _ C3.out.lt O0).trans C3.out;have B4:=J5 (B3.out.trans hb);have K4:Hid (∀ k,v4.ownBlock=some k->w.heap.size<=k):=fun k e=>Nat.le_trans B3.out.size (hk4 k e);have T4:=J5 ht4;have R4:=J5 hr;obtain ⟨a4,c4,f4,hv4,_⟩:=ht4;subst hv4;have d4:=C4.out.cell 0;have e4:=C4.out.opn 0;dsimp only [List.getElem?_cons_zero] at d4;clear hr hb hk4 dX dR fR;go_wp2;exact QE R4.out B4.out hq C4.out T4.out K4.out _ rfl
def zK (w:World) (e:Ending) (w':World):Prop:=(∃ v nm,e=.returned (.tuple #[.agg #[v],.string nm])/\di 60 w' v/\nm.size<=20)/\Below w.heap.size w w'
theorem c4 (a:Option Addr) (L cap:Nat) (w:World) (hL:L<=1048576) (hcap:L<=cap) (h:BytesAt w a L):
 Calls prog 4 #[.slice a L cap] w fun e w'=>zK w e w':=by
 have HB:=J5 h;clear h;go_enter func4,ntmps4
 go_wp2_with fail
 obtain ⟨w0,hw0⟩:∃ y:World,y=w.alloc (.cells #[.slice none 0 0] 25):=⟨_,rfl⟩;rw [<- hw0];have b0:Below w.heap.size w w0:=by rw [hw0];exact bA
 have C0:Hid (Cl w0 w.heap.size 25 [.slice none 0 0]):=by show Cl _ _ _ _;rw [hw0];exact F3 w [_] 25
 clear hw0;refine (c13 a L cap w0 hL hcap (Kt HB.out b0)).mono ?_;rintro e w1 ⟨rfl,hrd,hb1,hsz⟩;have R1:Hid (o8 w1 w0.heap.size 0):=⟨0,Nat.le_refl _,hrd⟩;have b1:=J5 (bT b0 hb1);have C1:=J5 (C0.out.below hb1 C0.out.lt);have hz0:=C0.out.lt;clear hrd hb1 hsz b0 C0 HB;generalize w0.heap.size=q at*
 go_wp2_with fail
 refine (c14 q 0 w1 O0 R1.out).mono ?_;rintro e w2 ⟨⟨v,rfl,ht,hk⟩,hr,hb⟩;have hq1:=R1.out.lt;have b2:=Q0 (b1.out.trans (hb.below O0 O0));have C2:Hid (Cl w2 w.heap.size 25 [.slice none 0 0]):=(hb.block _ C1.out.lt O0).trans C1.out;obtain ⟨w3,hw3⟩:∃ y:World,y=w2.alloc (.cells #[v] 25):=⟨_,rfl⟩;have b3:Below w2.heap.size w2 w3:=by rw [hw3];exact bA
 have CX:Hid (Cl w3 w2.heap.size 25 [v]):=by show Cl _ _ _ _;rw [hw3];exact F3 w2 [_] 25
 have R3:=J5 (hr.later b3);have T3:=J5 (ht.below b3);have C3:=J5 (C2.out.below b3 C2.out.lt);have B3:=J5 (bT b2.out b3);have HK:Hid (∀ k,v.ownBlock=some k->k≠q):=fun k e=>by have:=hk k e;omega
 have hqs:=hr.lt;obtain ⟨a9,c9,f9,hv9,_⟩:=ht;subst hv9;have hzR:=C2.out.lt;clear hk hr hb R1 b1 C1 b2 C2 b3
 go_wp2_with fail
 rw [<- hw3];clear hw3;generalize w2.heap.size=X at*;have dX:=CX.out.cell 0;dsimp only [List.getElem?_cons_zero] at dX;generalize hv:(Value.slice a9 f9.length c9)=v at*;clear hv;refine wp_region_held_drew (S:=fun u=>u.cell? ⟨X,0,none⟩=some v) I1 ?_ fun hH=>?_
 · ((try dsimp only);go_keep)
 obtain ⟨w4,hw4⟩:∃ y:World,y=w3.drew:=⟨_,rfl⟩;rw [<- hw4] at hH ⊢;have b4:Below w3.heap.size w3 w4:=by rw [hw4];exact (Below.refl _ _).drew
 have R4:=J5 (R3.out.later b4);have T4:=J5 (T3.out.below b4);have C4:=J5 (C3.out.below b4 C3.out.lt);have X4:=J5 (CX.out.below b4 CX.out.lt);have B4:=J5 (bT B3.out b4);clear hw4 R3 T3 C3 B3 CX b4 dX;refine tq 0 hH ?_;refine tq 1 hH ?_
 try simp only [qq]
 refine rq 2 fun K hK=>?_;go_simp;refine (c15 q (0+1506) w4 O0 R4.out).mono ?_;rintro e w5 ⟨⟨nm,rfl,hnm⟩,hr,hb⟩;have hq4:=R4.out.lt;have T5:=J5 (T4.out.but hb HK.out);have C5:Hid (Cl w5 w.heap.size 25 [.slice none 0 0]):=(hb.block _ C4.out.lt O0).trans C4.out;have X5:Cl w5 X 25 [v]:=(hb.block _ X4.out.lt O0).trans X4.out;have B5:=Q0 (B4.out.trans (hb.below O0 (by have:=B4.out.size;omega)));clear hr hb hH R4 T4 C4 X4 B4;go_simp;refine hK.out _ _ (X5.cell 0) fun hH=>?_;clear hK K
 try simp only [qq]
 obtain ⟨a1,c1,f1,hv1,_⟩:=T5.out;subst hv1;refine rq 3 fun K hK=>?_;have d1:=C5.out.cell 0;have e1:=C5.out.opn 0;dsimp only [List.getElem?_cons_zero] at d1;go_simp;have X1:=(X5.on (F8 w5 w.heap.size 0 (.slice a1 f1.length c1)) O0).cell 0;clear hH;refine hK.out _ _ X1 fun hH=>?_;clear hK K
 try simp only [qq]
 refine tq 4 hH ?_
 try simp only [qq]
 refine wpAnyH_done I1 ?_ _;clear hH X1 X5;go_wp2;have er:=World.cell?_setCell_same w5 ⟨w.heap.size,0,none⟩ (.slice a1 f1.length c1) d1;exact bodyPost_ret (v:=.tuple #[.agg #[.slice a1 f1.length c1],.string nm]) (by simp [results,Tryz.results4,go_sem,er]) rfl ⟨⟨_,nm,rfl,Ci T5.out C5.out,hnm⟩,B5.out.setCell Q8 _⟩
end Go.Proofs.YtdpoaadafcaffaaGreatDoor
