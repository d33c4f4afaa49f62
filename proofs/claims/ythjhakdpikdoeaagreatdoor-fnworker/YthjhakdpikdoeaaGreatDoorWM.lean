import Derived.Test.YthjhakdpikdoeaaGreatDoorWL
set_option linter.unusedVariables false
set_option maxHeartbeats 8000000
set_option maxRecDepth 100000
namespace Go.Proofs.YthjhakdpikdoeaaGreatDoor
open Proofs.Tryz
open Go.RowKit
structure DS (q P:Nat) (w:World) (v:Value) (u:World):Prop where
 rd:RdTo u q P
 bu:But q w u
 qw:q<w.heap.size
 h1:Cl u w.heap.size 51 [.slice none 0 0]
 h2:Cl u (w.heap.size+1) 51 [v]
 tr:TrB 40 u v
 kn:∀ k,v.ownBlock=some k->w.heap.size<=k
variable {q P P':Nat} {w u u':World} {v v':Value}
theorem DS.call (h:DS q P w v u) (hr:RdTo u' q P') (hb:But q u u'):DS q P' w v u':=by
 have:=h.qw;exact ⟨hr,h.bu.trans hb,h.qw,(hb.block _ h.h1.lt om_).trans h.h1,(hb.block _ h.h2.lt om_).trans h.h2,h.tr.but hb (fun k e=>by have:=h.kn k e;omega),h.kn⟩
theorem DS.later (h:DS q P w v u) (hb:Below u.heap.size u u'):DS q P w v u':=h.call (h.rd.later hb) (But.of_below hb)
theorem DS.rdm (h:DS q P w v u) (hp:P<=P'):DS q P' w v u:=h.call (h.rd.mono hp) (But.refl _ _)
theorem DS.kn' (h:DS q P w v u) (hv:v'=v\/∀ k,v'.ownBlock=some k->u.heap.size<=k):∀ k,v'.ownBlock=some k->w.heap.size<=k:=fun k e=>by
 rcases hv with rfl | hv
 · exact h.kn k e
 exact Nat.le_trans h.bu.size (hv k e)
theorem DS.put (h:DS q P w v u) (ht:TrB 40 u v') (hk:∀ k,v'.ownBlock=some k->w.heap.size<=k):DS q P w v' (u.setCell ⟨w.heap.size+1,0,none⟩ v'):=by
 have:=h.qw;obtain ⟨a,c,fs,rfl,_⟩:=h.tr;exact ⟨rd_set1 h.rd om_ _ _,but_set1 h.bu om_ _ _,h.qw,h.h1.on (on_set _ _ _ _) om_,h.h2.set 0 _,trv_set ht h.h2,hk⟩
def Is30 (B q P:Nat) (w:World) (e:Ending) (w':World):Prop:=(∃ v',e=.returned (.agg #[v'])/\TrB B w' v'/\∀ k,v'.ownBlock=some k->w.heap.size<=k)/\RdTo w' q P/\But q w w'
theorem fin30 (h:DS q (P+1500) w v u) (ht:TrB 40 u v') (hk:∀ k,v'.ownBlock=some k->w.heap.size<=k) (tm:Array Value) (h2:tm[2]?=some (.pointer (some ⟨w.heap.size,0,none⟩))):bodyPost prog f17 (Is30 40 q (P+1500) w) .ret ⟨tm,[]⟩ (u.setCell ⟨w.heap.size,0,none⟩ v'):=by
 have er:=World.cell?_setCell_same u ⟨w.heap.size,0,none⟩ v' (h.h1.cell 0);have:=h.qw;exact bodyPost_ret (v:=.agg #[v']) (by simp [results,Tryz.results17,go_sem,er,h2]) rfl ⟨⟨v',rfl,trv_set ht h.h1,hk⟩,rd_set1 h.rd om_ _ _,but_set1 h.bu lr_ _ _⟩
theorem formL_le (is:List I3):(ofL (formL is)).size<=300:=by
 rw [ofL_size];unfold formL;split
 · rename_i h;exact h.2
 simp
theorem formP_le (is:List M3):(ofL (G.formP is)).size<=300:=by
 rw [ofL_size];unfold G.formP;split
 · rename_i h;exact h.2
 simp
theorem mk_le {ms:List M3} (h:∀ x∈ms,x.le 4000) (i:Nat):(ms.getD i m3z).le 1048576:=by
 rcases Nat.lt_or_ge i ms.length with hi | hi
 · rw [show ms.getD i m3z=ms[i] from by simp [List.getD,hi]]
   have:=h _ (List.getElem_mem hi);exact ⟨Nat.le_trans this.1 om_,Nat.le_trans this.2.1 om_,Nat.le_trans this.2.2 om_⟩
 rw [show ms.getD i m3z=m3z from by simp [List.getD,hi]];exact ⟨dc_,dc_,dc_⟩
theorem row_mkW {w:World} {base:Nat} {v:Value} {ms:List M3} (h:w.ownsRow base 24 3 v ms.length (G.mkCells ms)):∃ a c,v=.slice a ms.length c/\G.MksAt w a ms:=G.own3_form h
theorem row_all {w:World} {base:Nat} {e:TypeId} {size n:Nat} {v:Value} {xs:List Value} (h:w.ownsRow base e size v n xs):Src w v size n xs:=by
 rcases h.2 with ⟨rfl,h2⟩ | ⟨g,cap,cur,rfl,hb,hg,hnc,hcm,hcs,htk⟩
 · have h1:=h.1
   subst h2;exact .inl ⟨⟨0,rfl⟩,rfl,List.length_eq_zero_iff.1 (by rw [h1];simp)⟩
 refine .inr ⟨⟨g,0,none⟩,cap,rfl,h.1,fun j u e=>?_⟩;rw [<- htk,List.getElem?_take] at e;split at e
 · rw [Addr.add_lit,Lib.cell_of_heap hg,<- e];simp
 cases e
theorem row_pos {w:World} {base:Nat} {e:TypeId} {size n m c:Nat} {a:Option Addr} {xs:List Value} (h:w.ownsRow base e size (.slice a m c) n xs) (hn:0<n):∃ g,a=some ⟨g,0,none⟩:=by
 rcases h.2 with ⟨_,h⟩ | ⟨g,_,_,h,_⟩
 · omega
 injection h with h _ _;exact ⟨g,h⟩
theorem mk_one (ms:List M3):∀ v∈G.mkCells ms,v.oneCell'=true:=fun v hv=>by
 obtain ⟨x,_,h⟩:=List.mem_flatMap.1 hv;simp at h;rcases h with rfl | rfl | rfl <;> rfl
def MR (n:Nat) (xs:List Value):Prop:=xs.length=n*3/\∀ v∈xs,strB 4000 v=true
theorem MR.get {n j:Nat} {xs:List Value} (h:MR n xs) (hj:j<n*3):∃ s:ByteArray,xs[j]?=some (.string s)/\s.size<=4000:=by
 have hl:j<xs.length:=by rw [h.1];exact hj
 obtain ⟨s,e,hs⟩:=strB_iff.1 (h.2 _ (List.getElem_mem hl));exact ⟨s,by rw [List.getElem?_eq_getElem hl,e],hs⟩
theorem MR.set {n:Nat} {xs:List Value} (h:MR n xs) (j:Nat) {s:ByteArray} (hs:s.size<=4000):MR n (xs.set j (.string s)):=
 ⟨by rw [List.length_set];exact h.1,fun v hv=>by
  rcases List.mem_or_eq_of_mem_set hv with h1 | h1
  · exact h.2 v h1
  rw [h1];exact strB_iff.2 ⟨s,rfl,hs⟩⟩
theorem mr_mk {ms:List M3} (h:∀ x∈ms,x.le 4000):MR ms.length (G.mkCells ms):=⟨by induction ms <;> simp_all [G.mkCells];omega,fun v hv=>by
 obtain ⟨x,hx,h1⟩:=List.mem_flatMap.1 hv;simp at h1;rcases h1 with rfl | rfl | rfl
 · exact strB_iff.2 ⟨_,rfl,(h x hx).1⟩
 · exact strB_iff.2 ⟨_,rfl,(h x hx).2.1⟩
 exact strB_iff.2 ⟨_,rfl,(h x hx).2.2⟩⟩
theorem mr_app {ms:List M3} (h:∀ x∈ms,x.le 4000):MR (1+ms.length) (G.mkCells [⟨⟨#[119]⟩,⟨#[116,48]⟩,⟨#[97]⟩⟩]++G.mkCells ms):=by
 have:=mr_mk (ms:=⟨⟨#[119]⟩,⟨#[116,48]⟩,⟨#[97]⟩⟩::ms) (fun x hx=>by
  rcases List.mem_cons.1 hx with rfl | hx
  · exact ⟨dc_,dc_,dc_⟩
  exact h x hx)
 rw [List.length_cons,Nat.add_comm] at this;exact this
theorem MR.mk:∀ {n:Nat} {xs:List Value},MR n xs->∃ ms:List M3,ms.length=n/\xs=G.mkCells ms/\∀ x∈ms,x.le 4000
 | 0,xs,h=>⟨[],rfl,by simpa [G.mkCells] using h.1,fun x h=>nomatch h⟩
 | n+1,[],h=>by simp [MR] at h
 | n+1,[_],h=>by have:=h.1;simp at this;omega
 | n+1,[_,_],h=>by have:=h.1;simp at this;omega
 | n+1,x::y::z::r,h=>by
  obtain ⟨a,rfl,ha⟩:=strB_iff.1 (h.2 x sm_);obtain ⟨b,rfl,hb⟩:=strB_iff.1 (h.2 y sm_);obtain ⟨c,rfl,hc⟩:=strB_iff.1 (h.2 z sm_);obtain ⟨gs,h1,h2,h3⟩:=MR.mk (n:=n) (xs:=r) ⟨by have:=h.1;simp at this;omega,fun v hv=>h.2 v (by simp [hv])⟩;exact ⟨⟨a,b,c⟩::gs,by simp [h1],by rw [h2];rfl,fun x hx=>by rcases List.mem_cons.1 hx with rfl | hx;exact ⟨ha,hb,hc⟩;exact h3 x hx⟩
theorem c17 (q P:Nat) (w:World) (hp:P<=50000) (hr:RdTo w q P):
 Calls prog 17 #[.pointer (some ⟨q,0,none⟩)] w fun e w'=>Is30 40 q (P+1500) w e w':=by
 have HR:=hdI hr;have hq:=hr.lt;clear hr;go_enter func17,ntmps17
 go_wp2_with fail
 go_loopw [4] (fun i wr=>∃ (k:Nat) (v:Value),i=.int .i64 k/\k<=3/\Hid (DS q (P+3*k) w v wr)) (fun i _=>3 - (intOf i).toNat)
 case atStart=>
  have hb:Below w.heap.size w ((w.alloc (.cells #[.slice none 0 0] 51)).alloc (.cells #[.slice none 0 0] 51)):=by2 _ _ _;exact ⟨0,.slice none 0 0,rfl,om_,⟨HR.out.later hb,But.of_below hb,hq,cl_old (cl_new w [_] 51) _,cl_at (xs:=[_]) sm_,⟨none,0,[],rfl,.inl rfl,sm_,fun x h=>nomatch h⟩,fun k e=>nomatch e⟩⟩
 case round=>
  obtain ⟨k,v,rfl,hk,H⟩:=hrel;by_cases hlt:k<3
  · go_wp2_with fail
    refine (pickT wr q (P+3*k) 8 om_ om_ om_ H.out.rd).mono ?_;rintro e y1 ⟨⟨r,rfl,r0,r1⟩,hr,ho⟩;have H1:=hdI (H.out.call hr ho.but);clear H hr ho;by_cases hr0:0<r;rotate_left
    · go_wp2
      go_roundw
      case rel=>exact ⟨k+1,v,by go_num,om_,H1.out.rdm om_⟩
      case measure=>simp [intOf];omega
    obtain ⟨nm,hn1,hn2,hns⟩:∃ nm:ByteArray,(∀ u,(Instr.slice 9 (.string ⟨#[97,98,99]⟩) (some (.int .i64 (k:Int))) none none).run prog u=.ok (.string ((⟨#[97,98,99]⟩:ByteArray).extract k 3)) u)/\(∀ u,(Instr.slice 9 (.string ((⟨#[97,98,99]⟩:ByteArray).extract k 3)) none (some (.int .i64 1)) none).run prog u=.ok (.string nm) u)/\nm.size<=4000:=by
     obtain rfl | rfl | rfl:k=0\/k=1\/k=2:=om_
     · exact ⟨⟨#[97]⟩,fun u=>kr_,fun u=>kr_,dc_⟩
     · exact ⟨⟨#[98]⟩,fun u=>kr_,fun u=>kr_,dc_⟩
     exact ⟨⟨#[99]⟩,fun u=>kr_,fun u=>kr_,dc_⟩
    go_wp2_with fail
    refine wp_region_L (S:=fun u=>u.cell? ⟨w.heap.size+1,0,none⟩=some v) 7 kr_ (H1.out.h2.cell 0) fun hH=>?_;obtain ⟨y2,hy⟩:∃ y:World,y=y1.drew:=⟨_,rfl⟩;rw [<- hy] at hH ⊢;have H2:=hdI (H1.out.later (u':=y2) (by rw [hy];exact (Below.refl _ _).drew));clear hy H1;refine lq 0 hH ?_;refine lq 1 hH ?_
    try simp only [qq]
    refine lq 2 hH ?_
    try simp only [qq]
    refine lq 3 hH ?_;refine lq 4 hH ?_
    try simp only [qq]
    refine lr (i:=5) (o:=⟨some 22,.call ⟨.value (.func 42),#[.tmp 21],#[45]⟩,9,_,_,none⟩) rfl dc_ kr_ fun K hK=>?_;go_simp;refine (c42 q (P+3*k+1) y2 om_ H2.out.rd).mono ?_;rintro e y3 ⟨⟨x,rfl,hx⟩,hr,hb⟩;have H3:=hdI (H2.out.call hr hb);clear H2 hr hb hH;go_simp;refine hK.out _ _ (H3.out.h2.cell 0) fun hH=>?_;clear hK K
    try simp only [qq]
    refine lr (i:=6) (o:=⟨some 23,.call ⟨.value (.func 41),#[.tmp 17,.tmp 20,.tmp 22],#[51,9,9]⟩,51,_,_,none⟩) rfl dc_ kr_ fun K hK=>?_;go_simp;refine (c41 v nm x y3 H3.out.tr hns om_).mono ?_;rintro e y4 ⟨⟨v',rfl,ht,hv⟩,hb⟩;have hk':=H3.out.kn' hv;have H4:=hdI (H3.out.later hb);have H5:=hdI (H4.out.put ht hk');obtain ⟨a1,c1,f1,hv1,_⟩:=ht;obtain ⟨a2,c2,f2,hv2,_⟩:=H4.out.tr;subst hv1 hv2;clear H3 hb hH hv;go_simp;refine hK.out _ _ (H4.out.h2.cell 0) fun hH=>?_;clear hK K
    try simp only [qq]
    refine lz (o:=⟨none,.store 51 (.tmp 3) (.tmp 23),0,_,_,none⟩) rfl kr_ fun K hK=>?_;have z2:=H4.out.h2.cell 0;have zf:=H4.out.h2.opn 0;dsimp only [List.getElem?_cons_zero] at z2;go_simp;clear hH;refine hK.out _ _ ?_;clear hK K
    try simp only [qq]
    refine wpL_done kr_ ?_ _;go_wp2;go_roundw
    case rel=>exact ⟨k+1,_,by go_num,om_,H5.out.rdm om_⟩
    case measure=>simp [intOf];omega
  go_wp2_with fail
  go_loopw [5,6] (fun i s wr=>∃ (k:Nat) (x:ByteArray) (v:Value),i=.int .i64 k/\k<=4/\Hid (DS q (P+9+70*k) w v wr)) (fun i _ _=>4 - (intOf i).toNat)
  case atStart=>exact ⟨0,⟨#[]⟩,v,rfl,om_,H.out.rdm om_⟩
  case round=>
   clear H;obtain ⟨k,_,v,rfl,hk,H⟩:=hrel;have mark:True:=trivial;have mark2:True:=trivial;by_cases hlt:k<4;rotate_left
   · go_wp2_with fail
     clear mark;refine (pickT wr q (P+9+70*k) 8 om_ om_ om_ H.out.rd).mono ?_;rintro e y1 ⟨⟨r,rfl,r0,r1⟩,hr,ho⟩;have H1:=hdI ((H.out.call hr ho.but).rdm (P':=P+300) om_);clear H hr ho;rcases Classical.em (r=0) with hr0 | hr0;rotate_left
     · have hrb:(r==0)=false:=by simpa using hr0
       go_wp2_with fail
       refine (c48 q (P+300) y1 om_ H1.out.rd).mono ?_;rintro e y2 ⟨v2,ms,rfl,hm,hml⟩;have H2:=hdI (H1.out.call hm.rd hm.bu);obtain ⟨ma,mc,rfl,hat⟩:=row_mkW hm.row;have HA:=hdI hat;have HS:=hdI hm.sm;clear H1 hm hat
       go_wp2_with fail
       refine (G.c49 ma mc ms y2 (mk_le HS.out) om_ HA.out).mono ?_;rintro e y3 ⟨rfl,hb⟩;have H3:=hdI (H2.out.later hb);have hf:=formP_le ms;clear H2 hb HA HS;generalize ofL (G.formP ms)=s at*
       go_wp2_with fail
       refine (pickT y3 q (P+380) 24 om_ om_ om_ H3.out.rd).mono ?_;rintro e y4 ⟨⟨r4,rfl,r40,r41⟩,hr,ho⟩;have H4:=hdI (H3.out.call hr ho.but);clear H3 hr ho;rcases Classical.em (r4=0) with hr4 | hr4
       case' inl=>
        subst hr4
        go_wp2_with fail
        refine (c50 q (P+381) s y4 om_ om_ H4.out.rd).mono ?_;rintro e y5 ⟨⟨s5,rfl,hs5⟩,hr,hb⟩;have H5:=hdI (H4.out.call hr hb);clear H4 hr hb;revert mark2
       case' inr=>
        have hrb4:(r4==0)=false:=by simpa using hr4
        have H5:=hdI (H4.out.rdm (P':=P+384) om_);have hs5:s.size<=2010:=om_;clear H4;generalize y4=y5 at*;generalize s=s5 at*;revert mark2
       all_goals
        intro _;obtain ⟨a2,c2,f2,hv2,_⟩:=H5.out.tr;subst hv2;have dX:=H5.out.h2.cell 0;dsimp only [List.getElem?_cons_zero] at dX
        go_wp2_with fail
        refine (c41 _ ⟨#[112,108,97,110]⟩ s5 y5 H5.out.tr dc_ om_).mono ?_;rintro e y6 ⟨⟨v',rfl,ht,hv⟩,hb⟩;have hk':=H5.out.kn' hv;have H6:=hdI (H5.out.later hb);have HT:=hdI ht;obtain ⟨a1,c1,f1,hv1,_⟩:=ht;subst hv1;have d1:=H6.out.h1.cell 0;have e1:=H6.out.h1.opn 0;dsimp only [List.getElem?_cons_zero] at d1;clear H5 hb hv dX;go_wp2;exact fin30 (H6.out.rdm om_) HT.out hk' _ rfl
     subst hr0
     go_wp2_with fail
     refine wp_region_L (S:=fun u=>u.cell? ⟨w.heap.size+1,0,none⟩=some v) 6 kr_ (H1.out.h2.cell 0) fun hH=>?_;obtain ⟨y2,hy⟩:∃ y:World,y=y1.drew:=⟨_,rfl⟩;rw [<- hy] at hH ⊢;have H2:=hdI (H1.out.later (u':=y2) (by rw [hy];exact (Below.refl _ _).drew));clear hy H1;refine lq 0 hH ?_;refine lq 1 hH ?_
     try simp only [qq]
     refine lr (i:=2) (o:=⟨some 59,.call ⟨.value (.func 18),#[.tmp 58,.const (.int .i64 5)],#[45,3]⟩,3,_,_,none⟩) rfl dc_ kr_ fun K hK=>?_;go_simp;refine (pickT y2 q (P+300) 5 om_ om_ om_ H2.out.rd).mono ?_;rintro e y3 ⟨⟨r3,rfl,r30,r31⟩,hr,ho⟩;have H3:=hdI (H2.out.call hr ho.but);clear H2 hr ho hH;go_simp;refine hK.out _ _ (H3.out.h2.cell 0) fun hH=>?_;clear hK K
     try simp only [qq]
     refine lr (i:=3) (o:=⟨some 60,.call ⟨.value (.func 45),#[.tmp 59],#[3]⟩,87,_,_,none⟩) rfl dc_ kr_ fun K hK=>?_;go_simp;refine (c45 r3 y3).mono ?_;rintro e y4 ⟨⟨T,a,cap,rfl,hT,hTl,hTs⟩,hb⟩;have H4:=hdI (H3.out.later hb);have HT:=hdI hT.to;have HTS:=hdI hTs;clear H3 hb hT hTs hH;go_simp;refine hK.out _ _ (H4.out.h2.cell 0) fun hH=>?_;clear hK K
     try simp only [qq]
     refine lr (i:=4) (o:=⟨some 61,.call ⟨.value (.func 43),#[.tmp 60],#[87]⟩,9,_,_,none⟩) rfl dc_ kr_ fun K hK=>?_;go_simp;refine (c43 a cap T y4 (fun i=>Nat.le_trans (HTS.out i) om_) om_ HT.out).mono ?_;rintro e y5 ⟨rfl,hb⟩;have H5:=hdI (H4.out.later hb);have hf:=formL_le T;clear H4 hb HT HTS hH;generalize ofL (formL T)=s at*;go_simp;refine hK.out _ _ (H5.out.h2.cell 0) fun hH=>?_;clear hK K
     try simp only [qq]
     refine lr (i:=5) (o:=⟨some 62,.call ⟨.value (.func 41),#[.tmp 57,.const (.string ⟨#[97]⟩),.tmp 61],#[51,9,9]⟩,51,_,_,none⟩) rfl dc_ kr_ fun K hK=>?_;go_simp;refine (c41 v ⟨#[97]⟩ s y5 H5.out.tr dc_ om_).mono ?_;rintro e y6 ⟨⟨v6,rfl,ht,hv⟩,hb⟩;have hk':=H5.out.kn' hv;have H6:=hdI (H5.out.later hb);have H7:=hdI (H6.out.put ht hk');obtain ⟨a1,c1,f1,hv1,_⟩:=ht;obtain ⟨a2,c2,f2,hv2,_⟩:=H6.out.tr;subst hv1 hv2;clear H5 hb hH hv hk';go_simp;refine hK.out _ _ (H6.out.h2.cell 0) fun hH=>?_;clear hK K
     try simp only [qq]
     refine lz (o:=⟨none,.store 51 (.tmp 3) (.tmp 62),0,_,_,none⟩) rfl kr_ fun K hK=>?_;have q2:=H6.out.h2.cell 0;have qf:=H6.out.h2.opn 0;dsimp only [List.getElem?_cons_zero] at q2;go_simp;clear hH;refine hK.out _ _ ?_;clear hK K q2 qf H6
     try simp only [qq]
     refine wpL_done kr_ ?_ _;generalize (y6.setCell _ _)=y7 at*;generalize (Value.slice a1 f1.length c1)=v7 at H7
     go_wp2_with fail
     refine wp_region_L (S:=fun u=>u.cell? ⟨w.heap.size+1,0,none⟩=some v7) 9 kr_ (H7.out.h2.cell 0) fun hH=>?_;obtain ⟨z0,hy⟩:∃ y:World,y=y7.drew:=⟨_,rfl⟩;rw [<- hy] at hH ⊢;have G0:=hdI (H7.out.later (u':=z0) (by rw [hy];exact (Below.refl _ _).drew));clear hy H7;refine lq 0 hH ?_
     try simp only [qq]
     refine lr (i:=1) (o:=⟨some 64,.call ⟨.value (.func 47),#[.const (.int .i64 2)],#[3]⟩,92,_,_,none⟩) rfl dc_ kr_ fun K hK=>?_;go_simp;refine (c47 2 z0).mono ?_;rintro e z1 ⟨rfl,hb⟩;have G1:=hdI (G0.out.later hb);clear G0 hb hH;go_simp;refine hK.out _ _ (G1.out.h2.cell 0) fun hH=>?_;clear hK K
     try simp only [qq]
     refine lr (i:=2) (o:=⟨some 65,.call ⟨.value (.func 47),#[.const (.int .i64 3)],#[3]⟩,92,_,_,none⟩) rfl dc_ kr_ fun K hK=>?_;go_simp;refine (c47 3 z1).mono ?_;rintro e z2 ⟨rfl,hb⟩;have G2:=hdI (G1.out.later hb);clear G1 hb hH;go_simp;refine hK.out _ _ (G2.out.h2.cell 0) fun hH=>?_;clear hK K
     try simp only [qq]
     refine lr (i:=3) (o:=⟨some 66,.call ⟨.value (.func 47),#[.const (.int .i64 5)],#[3]⟩,92,_,_,none⟩) rfl dc_ kr_ fun K hK=>?_;go_simp;refine (c47 5 z2).mono ?_;rintro e z3 ⟨rfl,hb⟩;have G3:=hdI (G2.out.later hb);clear G2 hb hH;go_simp;refine hK.out _ _ (G3.out.h2.cell 0) fun hH=>?_;clear hK K
     try simp only [qq]
     refine lr (i:=4) (o:=⟨some 67,.call ⟨.value (.func 47),#[.const (.int .i64 10)],#[3]⟩,92,_,_,none⟩) rfl dc_ kr_ fun K hK=>?_;go_simp;refine (c47 10 z3).mono ?_;rintro e z4 ⟨rfl,hb⟩;have G4:=hdI (G3.out.later hb);clear G3 hb hH;go_simp;refine hK.out _ _ (G4.out.h2.cell 0) fun hH=>?_;clear hK K
     try simp only [qq]
     refine lr (i:=5) (o:=⟨some 68,.buildSlice 85 4 #[(0,.tmp 64),(1,.tmp 65),(2,.tmp 66),(3,.tmp 67)],85,_,_,none⟩) rfl dc_ kr_ fun K hK=>?_;go_simp;obtain ⟨z5,hz5⟩:∃ y:World,y=z4.alloc (.cells (insCells [⟨2,⟨#[]⟩,0⟩,⟨3,⟨#[]⟩,0⟩,⟨5,⟨#[]⟩,0⟩,⟨10,⟨#[]⟩,0⟩]).toArray 92):=⟨_,rfl⟩;change K _ (z4.alloc (.cells (insCells [⟨2,⟨#[]⟩,0⟩,⟨3,⟨#[]⟩,0⟩,⟨5,⟨#[]⟩,0⟩,⟨10,⟨#[]⟩,0⟩]).toArray 92));rw [<- hz5];have G5:=hdI (G4.out.later (u':=z5) (by rw [hz5];exact bA));have IA:Hid (InsAt z5 (some ⟨z4.heap.size,0,none⟩) [⟨2,⟨#[]⟩,0⟩,⟨3,⟨#[]⟩,0⟩,⟨5,⟨#[]⟩,0⟩,⟨10,⟨#[]⟩,0⟩]):=by show InsAt _ _ _;rw [hz5];exact ins_lit z4 _
     clear hz5 G4 hH;refine hK.out _ _ (G5.out.h2.cell 0) fun hH=>?_;clear hK K
     try simp only [qq]
     refine lq 6 hH ?_
     try simp only [qq]
     refine lr (i:=7) (o:=⟨some 70,.call ⟨.value (.func 43),#[.tmp 69],#[87]⟩,9,_,_,none⟩) rfl dc_ kr_ fun K hK=>?_;go_simp;refine (c43 (some ⟨z4.heap.size,0,none⟩) 4 [⟨2,⟨#[]⟩,0⟩,⟨3,⟨#[]⟩,0⟩,⟨5,⟨#[]⟩,0⟩,⟨10,⟨#[]⟩,0⟩] z5 (fun i=>Nat.le_trans (small_lit (T:=[⟨2,⟨#[]⟩,0⟩,⟨3,⟨#[]⟩,0⟩,⟨5,⟨#[]⟩,0⟩,⟨10,⟨#[]⟩,0⟩]) rfl i) om_) dc_ IA.out).mono ?_;rintro e z6 ⟨rfl,hb⟩;have G6:=hdI (G5.out.later hb);have hf6:=formL_le [⟨2,⟨#[]⟩,0⟩,⟨3,⟨#[]⟩,0⟩,⟨5,⟨#[]⟩,0⟩,⟨10,⟨#[]⟩,0⟩];clear G5 hb IA hH;generalize ofL (formL [⟨2,⟨#[]⟩,0⟩,⟨3,⟨#[]⟩,0⟩,⟨5,⟨#[]⟩,0⟩,⟨10,⟨#[]⟩,0⟩])=s6 at*;go_simp;refine hK.out _ _ (G6.out.h2.cell 0) fun hH=>?_;clear hK K
     try simp only [qq]
     refine lr (i:=8) (o:=⟨some 71,.call ⟨.value (.func 41),#[.tmp 63,.const (.string ⟨#[116,48]⟩),.tmp 70],#[51,9,9]⟩,51,_,_,none⟩) rfl dc_ kr_ fun K hK=>?_;go_simp;refine (c41 v7 ⟨#[116,48]⟩ s6 z6 G6.out.tr dc_ om_).mono ?_;rintro e z7 ⟨⟨v8,rfl,ht,hv⟩,hb⟩;have hk':=G6.out.kn' hv;have G7:=hdI (G6.out.later hb);have G8:=hdI (G7.out.put ht hk');obtain ⟨a3,c3,f3,hv3,_⟩:=ht;obtain ⟨a4,c904,f4,hv4,_⟩:=G7.out.tr;subst hv3 hv4;clear G6 hb hH hv hk';go_simp;refine hK.out _ _ (G7.out.h2.cell 0) fun hH=>?_;clear hK K
     try simp only [qq]
     refine lz (o:=⟨none,.store 51 (.tmp 3) (.tmp 71),0,_,_,none⟩) rfl kr_ fun K hK=>?_;have q2:=G7.out.h2.cell 0;have qf:=G7.out.h2.opn 0;dsimp only [List.getElem?_cons_zero] at q2;go_simp;clear hH;refine hK.out _ _ ?_;clear hK K q2 qf G7
     try simp only [qq]
     refine wpL_done kr_ ?_ _;generalize (z7.setCell _ _)=z8 at*;generalize hv9:(Value.slice a3 f3.length c3)=v9 at G8;clear hv9;obtain ⟨z9,hz9⟩:∃ y:World,y=z8.alloc (.cells #[.string ⟨#[119]⟩,.string ⟨#[116,48]⟩,.string ⟨#[97]⟩] 24):=⟨_,rfl⟩;have b9:Below z8.heap.size z8 z9:=by rw [hz9];exact bA
     have G9:=hdI (G8.out.later b9);have RW:Hid (z9.ownsRow z8.heap.size 24 3 (.slice (some ⟨z8.heap.size,0,none⟩) 1 1) 1 (G.mkCells [⟨⟨#[119]⟩,⟨#[116,48]⟩,⟨#[97]⟩⟩])):=by show World.ownsRow _ _ _ _ _ _ _;rw [hz9];exact ⟨rfl,.inr ⟨_,1,_,rfl,Nat.le_refl _,heap_alloc_new z8 _,Nat.le_refl _,dc_,rfl,rfl⟩⟩
     go_wp2_with fail
     rw [<- hz9];clear hz9;have hq8:q<z8.heap.size:=G8.out.rd.lt;refine (c48 q (P+301) z9 om_ G9.out.rd).mono ?_;rintro e z10 ⟨v10,ms,rfl,hm,hml⟩;have B10:=hdI ((But.of_below b9).trans hm.bu);have RD:=hdI hm.rd;have R10:=hdI (own_but RW.out hm.bu hq8);have SM:=hdI (row_all hm.row);have HSM:=hdI hm.sm;clear hm RW G9 b9;obtain ⟨ma,mc,hv10⟩:∃ a c,v10=.slice a ms.length c:=by
      rcases SM.out with ⟨⟨c,h⟩,h2,_⟩ | ⟨ad,c,h,_⟩
      · exact ⟨none,c,by rw [h,h2]⟩
      exact ⟨some ad,c,h⟩
     subst hv10
     go_wp2_with (at_builtin;refine wl_app rfl _ _ 94 rfl z8.heap.size 24 3 underlying94 inf24 dc_ _ 1 _ rfl R10.out _ ms.length (G.mkCells ms) rfl SM.out (mk_one ms) om_ B10.out.size ?_;intro v11 z11 O2 g2 hn2;have hb11:=gr_bW (Below.refl z8.heap.size z10) g2 B10.out.size (fun j e=>(R10.out.lt j e).1);have G11:=hdI (G8.out.call (RD.out.laterB hb11 hq8) (B10.out.laterB hb11 lr_));have BU:=hdI (B10.out.laterB hb11 lr_);have R11:=hdI O2;obtain ⟨na,nc,rfl⟩:=row_sl O2;obtain ⟨g,rfl⟩:=row_pos O2 om_;have hsr:=hdI (mr_app HSM.out);obtain ⟨s0,hs0,_⟩:=hsr.out.get (j:=ms.length*3+1) om_;have cg:=(R11.out.cellAt (ms.length*3+1) om_).trans hs0;have fg:=R11.out.frozenAt (ms.length*3+1);clear O2 g2 hn2 hb11)
     obtain ⟨k1,k2⟩:=R11.out.stored (ms.length*3+1) (.string ⟨#[119]⟩);obtain ⟨ms2,hm1,hm2,hm3⟩:=(hsr.out.set (ms.length*3+1) (s:=⟨#[119]⟩) dc_).mk;have hb12:=gr_bW (v:=.slice (some ⟨g,0,none⟩) (1+ms.length) nc) (Below.refl z8.heap.size z11) k2 (by have:=G11.out.h2.lt;have:=(R11.out.lt g rfl);omega) (fun j e=>(R11.out.lt j e).1);have G12:=hdI (G8.out.call (G11.out.rd.laterB hb12 hq8) (BU.out.laterB hb12 lr_));have MA:Hid (∀ u,But q (z11.setCell ⟨g,ms.length*3+1,none⟩ (.string ⟨#[119]⟩)) u->G.MksAt u (some ⟨g,0,none⟩) ms2):=fun u hu=>by
      rw [hm2,<- hm1] at k1;obtain ⟨a,c,e1,e2⟩:=row_mkW (own_but k1 hu hq8);injection e1 with e1 _ _;rw [e1];exact e2
     clear k1 k2 hm2 R11 G11 BU hb12 hsr cg fg;generalize (z11.setCell _ _)=z12 at*;rw [<- hm1];have hm4:ms2.length<=10:=om_;clear G8 hm1;refine wp_region_held_drew (S:=fun u=>u.cell? ⟨w.heap.size+1,0,none⟩=some v9) kr_ (G12.out.h2.cell 0) fun hH=>?_;obtain ⟨z13,hz13⟩:∃ y:World,y=z12.drew:=⟨_,rfl⟩;rw [<- hz13] at hH ⊢;have bd:Below z12.heap.size z12 z13:=by rw [hz13];exact (Below.refl _ _).drew
     have G13:=hdI (G12.out.later bd);have MK:=hdI (MA.out z13 (But.of_below bd));clear hz13 G12 bd MA;refine tq 0 hH ?_;refine tq 1 hH ?_
     try simp only [qq]
     refine rq 2 fun K hK=>?_;go_simp;refine (G.c49 (some ⟨g,0,none⟩) nc ms2 z13 (mk_le hm3) om_ MK.out).mono ?_;rintro e z14 ⟨rfl,hb⟩;have G14:=hdI (G13.out.later hb);have hf14:=formP_le ms2;clear G13 hb MK hH;generalize ofL (G.formP ms2)=s14 at*;go_simp;refine hK.out _ _ (G14.out.h2.cell 0) fun hH=>?_;clear hK K
     try simp only [qq]
     refine rq 3 fun K hK=>?_;go_simp;refine (c41 v9 ⟨#[112,108,97,110]⟩ s14 z14 G14.out.tr dc_ om_).mono ?_;rintro e z15 ⟨⟨v15,rfl,ht,hv⟩,hb⟩;have hk':=G14.out.kn' hv;have G15:=hdI (G14.out.later hb);have HT:=hdI ht;obtain ⟨a5,c905,f5,hv5,_⟩:=ht;subst hv5;clear G14 hb hH hv;go_simp;refine hK.out _ _ (G15.out.h2.cell 0) fun hH=>?_;clear hK K
     try simp only [qq]
     refine rq 4 fun K hK=>?_;have d1:=G15.out.h1.cell 0;have e1:=G15.out.h1.opn 0;dsimp only [List.getElem?_cons_zero] at d1;go_simp;have X1:=(G15.out.h2.on (on_set z15 w.heap.size 0 (.slice a5 f5.length c905)) om_).cell 0;clear hH;refine hK.out _ _ X1 fun hH=>?_;clear hK K
     try simp only [qq]
     refine wpAnyH_done kr_ ?_ _;clear hH X1 d1 e1;go_wp2;exact fin30 (G15.out.rdm om_) HT.out hk' _ rfl
   go_wp2_with fail
   refine (c44 q (P+9+70*k) wr om_ H.out.rd).mono ?_;rintro e y1 ⟨⟨T,a,cap,rfl,hT,hTl,hTs⟩,hr,hb⟩;have H1:=hdI (H.out.call hr hb);have HT:=hdI hT.to;have HTS:=hdI hTs;clear H hr hb hT hTs
   go_wp2_with fail
   refine (c43 a cap T y1 (fun i=>Nat.le_trans (HTS.out i) om_) om_ HT.out).mono ?_;rintro e y2 ⟨rfl,hb⟩;have H2:=hdI (H1.out.later hb);have hf:=formL_le T;clear H1 hb HT HTS;generalize ofL (formL T)=s at*
   go_wp2_with fail
   refine (pickT y2 q (P+9+70*k+60) 24 om_ om_ om_ H2.out.rd).mono ?_;rintro e y3 ⟨⟨r,rfl,r0,r1⟩,hr,ho⟩;have H3:=hdI (H2.out.call hr ho.but);clear H2 hr ho;rcases Classical.em (r=0) with hr0 | hr0
   case' inl=>
    subst hr0
    go_wp2_with fail
    refine (c42 q (P+9+70*k+61) y3 om_ H3.out.rd).mono ?_;rintro e y4 ⟨⟨s2,rfl,hs2⟩,hr,hb⟩;have H4:=hdI ((H3.out.call hr hb).rdm (P':=P+9+70*k+63) om_);have hf:s2.size<=300:=om_;clear H3 hr hb hs2;generalize s2=s3 at*;revert mark
   case' inr=>
    have hrb:(r==0)=false:=by simpa using hr0
    have H4:=hdI (H3.out.rdm (P':=P+9+70*k+63) om_);clear H3;generalize y3=y4 at*;generalize s=s3 at*;revert mark
   all_goals
    intro _;rcases Classical.em (k=0) with hk0 | hk0
    case' inr=>
     have hkb:((k:Int)==0)=false:=by simpa using hk0
     have H7:=hdI (H4.out.rdm (P':=P+9+70*k+64) om_);clear H4;generalize y4=y7 at*;generalize s3=s4 at*;revert mark2
    case' inl=>
     have hkb:((k:Int)==0)=true:=by simpa using hk0
     clear hk0
     go_wp2_with fail
     refine (pickT y4 q (P+9+70*k+63) 2 om_ om_ om_ H4.out.rd).mono ?_;rintro e y5 ⟨⟨r5,rfl,r50,r51⟩,hr,ho⟩;have H5:=hdI (H4.out.call hr ho.but);clear H4 hr ho;rcases Classical.em (r5=0) with hr5 | hr5
     case' inl=>
      subst hr5
      go_wp2_with fail
      refine (c45 0 y5).mono ?_;rintro e y6 ⟨⟨T,a,cap,rfl,hT,hTl,hTs⟩,hb⟩;have H6:=hdI (H5.out.later hb);have HT:=hdI hT.to;have HTS:=hdI hTs;clear H5 hb hT hTs
      go_wp2_with fail
      refine (c43 a cap T y6 (fun i=>Nat.le_trans (HTS.out i) om_) om_ HT.out).mono ?_;rintro e y7 ⟨rfl,hb⟩;have H7:=hdI (H6.out.later hb);have hf:=formL_le T;clear H6 hb HT HTS;generalize ofL (formL T)=s4 at*;revert mark2
     case' inr=>
      have hrb:(r5==0)=false:=by simpa using hr5
      have H7:=hdI H5.out;clear H5;generalize y5=y7 at*;generalize s3=s4 at*;revert mark2
   all_goals
    intro _
    go_wp2_with fail
    refine (pickT y7 q (P+9+70*k+64) 20 om_ om_ om_ H7.out.rd).mono ?_;rintro e y8 ⟨⟨r8,rfl,r80,r81⟩,hr,ho⟩;have H8:=hdI (H7.out.call hr ho.but);clear H7 hr ho;by_cases h8:0<r8;rotate_left
    · go_wp2
      go_roundw
      case rel=>exact ⟨k+1,⟨#[]⟩,v,by go_num,om_,H8.out.rdm om_⟩
      case measure=>simp [intOf];omega
    go_wp2_with fail
    refine wp_region_L (S:=fun u=>u.cell? ⟨w.heap.size+1,0,none⟩=some v) 6 kr_ (H8.out.h2.cell 0) fun hH=>?_;obtain ⟨y9,hy⟩:∃ y:World,y=y8.drew:=⟨_,rfl⟩;rw [<- hy] at hH ⊢;have H9:=hdI (H8.out.later (u':=y9) (by rw [hy];exact (Below.refl _ _).drew));clear hy H8;refine lq 0 hH ?_;refine lq 1 hH ?_;refine lq 4 hH ?_
    try simp only [qq]
    refine lr (i:=2) (o:=⟨some 50,.call ⟨.value (.func 46),#[.tmp 49],#[3]⟩,9,_,_,none⟩) rfl dc_ kr_ fun K hK=>?_;go_simp;have hk9:k<100:=om_;have hdl:(ofL (Lib.decDigits k)).size<=2:=by rw [ofL_size];exact decLen k hk9
    refine (c46 k y9 hk9).mono ?_;rintro e z1 ⟨rfl,hb⟩;have G1:=hdI (H9.out.later hb);clear H9 hb hH;generalize ofL (Lib.decDigits k)=dk at*;have hnn:¬9223372036854775807<1+dk.size:=om_;go_simp;refine hK.out _ _ (G1.out.h2.cell 0) fun hH=>?_;clear hK K
    try simp only [qq]
    refine lq 3 hH ?_
    try simp only [qq]
    generalize hnm:(⟨#[116]⟩++dk:ByteArray)=nm;have hns:nm.size<=4000:=by rw [<- hnm,ByteArray.size_append];have e1:ByteArray.size ⟨#[116]⟩=1:=rfl;omega
    clear hnm;refine lr (i:=5) (o:=⟨some 53,.call ⟨.value (.func 41),#[.tmp 48,.tmp 51,.tmp 52],#[51,9,9]⟩,51,_,_,none⟩) rfl dc_ kr_ fun K hK=>?_;go_simp;refine (c41 v nm s4 z1 G1.out.tr hns om_).mono ?_;rintro e z2 ⟨⟨v',rfl,ht,hv⟩,hb⟩;have hk':=G1.out.kn' hv;have G2:=hdI (G1.out.later hb);have G3:=hdI (G2.out.put ht hk');obtain ⟨a1,c1,f1,hv1,_⟩:=ht;obtain ⟨a2,c2,f2,hv2,_⟩:=G2.out.tr;subst hv1 hv2;clear G1 hb hH hv;go_simp;refine hK.out _ _ (G2.out.h2.cell 0) fun hH=>?_;clear hK K
    try simp only [qq]
    refine lz (o:=⟨none,.store 51 (.tmp 3) (.tmp 53),0,_,_,none⟩) rfl kr_ fun K hK=>?_;have q2:=G2.out.h2.cell 0;have qf:=G2.out.h2.opn 0;dsimp only [List.getElem?_cons_zero] at q2;go_simp;clear hH;refine hK.out _ _ ?_;clear hK K
    try simp only [qq]
    refine wpL_done kr_ ?_ _;go_wp2;go_roundw
    case rel=>exact ⟨k+1,⟨#[]⟩,_,by go_num,om_,G3.out.rdm om_⟩
    case measure=>simp [intOf];omega
end Go.Proofs.YthjhakdpikdoeaaGreatDoor
