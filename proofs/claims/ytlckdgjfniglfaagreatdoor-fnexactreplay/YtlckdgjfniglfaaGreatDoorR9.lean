import Derived.Test.YtlckdgjfniglfaaGreatDoorR4
import Derived.Test.YtlckdgjfniglfaaGreatDoorMU
set_option maxHeartbeats 8000000
set_option maxRecDepth 100000
set_option linter.unusedVariables false
namespace Go.Proofs.YtlckdgjfniglfaaGreatDoor
open Proofs.Tryz
open Go.RowKit
section
variable {b0 R fc H B bT bR bP:Nat} {m:MS} {fa:Option Addr} {rv:List Value} {u:World}
theorem ImX.ep (h:ImX b0 R m fa fc H B bT bR bP rv u) (n:Int) (h0:0<=n/\n<=200):ImX b0 R ⟨n,m.fs,m.s⟩ fa fc H B bT bR bP rv (u.setCell ⟨R,0,none⟩ (.int .i64 n)):=
 have o:=on_set u R 0 (.int .i64 n)
 ⟨⟨h0.1,h0.2,h.ok.fl,h.ok.fz,h.ok.st⟩,h.cr.set 0 _,newF_h h.nf (Nat.le_of_eq o.size.symm) (fun q hq=>o.block q (fun e=>absurd (ofT_one hq (e▸cl_ofT h.cr)) dc_)) lr_,h.sh.setR h.cr 0 _,h.hB,h.hR⟩
theorem ImX.fs {ga:Option Addr} {gc B1:Nat} {gs:List T.F2} (h:ImX b0 R m fa fc H B bT bR bP rv u) (hn:T.NewF B1 u ga gs) (hb:b0<=B1) (hl:gs.length<=40) (hz:∀ i,(gs.getD i T.f2z).le 4000):ImX b0 R ⟨m.ep,gs,m.s⟩ ga gc H B bT bR bP rv (u.setCell ⟨R,1,none⟩ (.slice ga gs.length gc)):=
 have o:=on_set u R 1 (.slice ga gs.length gc)
 ⟨⟨h.ok.e0,h.ok.e1,hl,hz,h.ok.st⟩,h.cr.set 1 _,newF_h hn (Nat.le_of_eq o.size.symm) (fun q hq=>o.block q (fun e=>absurd (ofT_one hq (e▸cl_ofT h.cr)) dc_)) hb,h.sh.setR h.cr 1 _,h.hB,h.hR⟩
theorem ImX.ts {H' B' bT' bR' bP':Nat} {rv':List Value} {s':St} (h:ImX b0 R m fa fc H B bT bR bP rv u) (hs:Sh B' H' bT' bR' bP' s'.wd (s'.ts.map (gT s'.wd)) s'.rs rv' u) (hb:b0<=B') (hk:StOk s'):ImX b0 R ⟨m.ep,m.fs,s'⟩ fa fc H' B' bT' bR' bP' rv' (u.setCell ⟨R,2,none⟩ (.pointer (some ⟨H',0,none⟩))):=
 have o:=on_set u R 2 (.pointer (some ⟨H',0,none⟩))
 ⟨⟨h.ok.e0,h.ok.e1,h.ok.fl,h.ok.fz,hk⟩,h.cr.set 2 _,newF_h h.nf (Nat.le_of_eq o.size.symm) (fun q hq=>o.block q (fun e=>absurd (ofT_one hq (e▸cl_ofT h.cr)) dc_)) lr_,hs.setR h.cr 2 _,hb,h.hR⟩
end
theorem c19 (b0 R:Nat) (m:MS) (x:N10) (ai:Option Addr) (ci:Nat) (w:World) (hM:ImM b0 R m w) (hb0:b0<=w.heap.size) (hmx:MaxAt w) (hx:EntOk x) (hxl:x.le 1048576) (hlk:LksAt w ai x.ls):
 Calls prog 19 #[.pointer (some ⟨R,0,none⟩),ifE x ai ci] w fun e w'=>Is19 w b0 R m x e w'/\Below b0 w w':=by
 obtain ⟨fa,fc,H,B,bT,bR,bP,rv,hI⟩:=hM;have I:=hI_ hI;have HLK:=hI_ hlk;have e0:=hI.ok.e0;have e1:=hI.ok.e1;have r0:=hI.cr.cell 0;have r1:=hI.cr.cell 1;have r2:=hI.cr.cell 2;have rf:=hI.cr.opn;have hR:=hI.hR;have hRl:=hI.cr.lt;dsimp only [List.getElem?_cons_zero,List.getElem?_cons_succ] at r0 r1 r2;clear hI hlk;rcases hx with ⟨n,hn,rfl⟩ | ⟨a,b,h,rfl⟩ | ⟨a,h,rfl⟩ | ⟨km,ls,c,t,h,rfl⟩ | rfl
 · have h0:=ta70_70
   show Calls prog 19 #[_,.iface 103 (.int .i64 n)] w _;have f0:=rf 0;clear rf;go_enter func19,ntmps19;by_cases hne:n=m.ep+1;rotate_left
   · have HD:Hid (dn m (eEpoch n)=none):=by show _=_;exact dn_1.trans (if_neg hne)
     go_wp2;go_ret;exact ⟨⟨by rw [HD.out];rfl,fun m' c=>by rw [HD.out] at c;cases c⟩,Below.refl _ _⟩
   obtain rfl:=hne;have HD:Hid (dn m (eEpoch (m.ep+1))=some ⟨m.ep+1,m.fs,m.s⟩):=by show _=_;exact dn_1.trans (if_pos rfl)
   have I2:=hI_ (I.out.ep (m.ep+1) ⟨om_,hn.2⟩);go_wp2;go_ret;exact ⟨⟨by rw [HD.out];rfl,fun m' c=>by rw [HD.out] at c;cases c;exact ⟨_,_,_,_,_,_,_,_,I2.out⟩⟩,(Below.refl _ _).setCell hR _⟩
 · have h0:=ta71_70
   have h1:=ta71_71;clear rf;show Calls prog 19 #[_,.iface 104 (.agg #[.string a,.string b])] w _;have HX4:Hid ((⟨a,b⟩:T.F2).le 1048576):=⟨by have:=nm_20 h.1;show a.size<=1048576;omega,by show b.size<=1048576;omega⟩;have HFZ:Hid (∀ i,(m.fs.getD i T.f2z).le 1048576):=fun i=>⟨Nat.le_trans (I.out.ok.fz i).1 dc_,Nat.le_trans (I.out.ok.fz i).2 dc_⟩;go_enter func19,ntmps19
   go_upto_region 10 with fail
   obtain ⟨y,hy⟩:∃ q:World,q=w.alloc (.cells #[.string a,.string b] 104):=⟨_,rfl⟩;have by1:Below w.heap.size w y:=by rw [hy];exact bA_
   have CE:Hid (Cl y w.heap.size 104 [.string a,.string b]):=by show Cl _ _ _ _;rw [hy];exact cl_new w [_,_] 104
   rw [<- hy];have bd:Below y.heap.size y y.drew:=(Below.refl _ _).drew;have ID:=hI_ ((I.out.below by1).below bd);have CD:=hI_ (CE.out.below bd CE.out.lt);clear hy r0 r1 r2;refine wp_region_held_drew (S:=fun u=>u.cell? ⟨w.heap.size,0,none⟩=some (.string a)/\u.cell? ⟨w.heap.size,1,none⟩=some (.string b)) kr_ ⟨CD.out.cell 0,CD.out.cell 1⟩ fun hH=>?_;refine tq 0 hH ?_
   try simp only [qq]
   refine tq 1 hH ?_
   try simp only [qq]
   refine tq 2 hH ?_
   try simp only [qq]
   refine tq 3 hH ?_
   try simp only [qq]
   refine tq 5 hH ?_
   try simp only [qq]
   have q1:=ID.out.cr.cell 1;dsimp only [List.getElem?_cons_zero,List.getElem?_cons_succ] at q1;refine rq 4 fun K hK=>?_;go_simp;refine hK.out _ _ hH fun hH=>?_;clear hK K q1
   try simp only [qq]
   refine rq 6 fun K hK=>?_;go_simp;refine (T.c44 fa fc m.fs ⟨a,b⟩ y.drew (by have:=I.out.ok.fl;omega) HFZ.out HX4.out ID.out.nf.1).mono ?_;rintro e w1 ⟨⟨ga,gc,cd,gs,rfl,hnf,hDR⟩,hb1⟩;have I1:=hI_ (ID.out.below hb1);have C1:=hI_ (CD.out.below hb1 CD.out.lt);have HNF:=hI_ hnf;have B1:Hid (Below b0 w w1):=((by1.mono hb0).trans (bd.mono (by have:=by1.size;omega))).trans (hb1.mono (by have:=by1.size;have:=bd.size;omega));have HDD:Hid (dn m (eFile a b)=if cd=0 then some ⟨m.ep,gs,m.s⟩ else none):=by
    show _=_;by_cases hc:cd=0
    · subst hc
      rw [if_pos rfl,dn_2,setF_0 hDR];rfl
    rw [if_neg hc,dn_2,setF_n hDR hc];rfl
   have I2:Hid (cd=0->ImX b0 R ⟨m.ep,gs,m.s⟩ ga gc H B bT bR bP rv (w1.setCell ⟨R,1,none⟩ (.slice ga gs.length gc))):=fun hc=>by
    subst hc;have hs:=set_small hDR I.out.ok.fz;exact I1.out.fs HNF.out (by have:=by1.size;have:=bd.size;omega) hs.1 hs.2
   clear hnf hb1 hDR hH;refine hK.out _ _ ⟨C1.out.cell 0,C1.out.cell 1⟩ fun hH=>?_;clear hK K
   try simp only [qq]
   refine tq 7 hH ?_
   try simp only [qq]
   refine tq 8 hH ?_
   try simp only [qq]
   refine tq 9 hH ?_
   try simp only [qq]
   refine tq 10 hH ?_
   try simp only [qq]
   refine tq 11 hH ?_
   try simp only [qq]
   have q1:=I1.out.cr.cell 1;have q2:=I1.out.cr.opn 1;dsimp only [List.getElem?_cons_zero,List.getElem?_cons_succ] at q1;refine rq 12 fun K hK=>?_;go_simp;have C2:=C1.out.on (on_set w1 R 1 (.slice ga gs.length gc)) (fun e=>absurd (ofT_one (cl_ofT C1.out) (e▸cl_ofT I1.out.cr)) dc_);clear hH;refine hK.out _ _ ⟨C2.cell 0,C2.cell 1⟩ fun hH=>?_;clear hK K q1 q2 C2
   try simp only [qq]
   refine tq 13 hH ?_
   try simp only [qq]
   refine wpAnyH_done kr_ ?_ _;clear hH C1 CD CE I1;by_cases hc:cd=0
   · subst hc
     have HD:=hI_ (HDD.out.trans (if_pos rfl));clear HDD;go_wp2;go_ret;exact ⟨⟨by rw [HD.out];rfl,fun m' c=>by rw [HD.out] at c;cases c;exact ⟨_,_,_,_,_,_,_,_,I2.out sm_⟩⟩,B1.out.setCell hR _⟩
   have hc':(cd==0)=false:=by simpa using hc
   have HD:=hI_ (HDD.out.trans (if_neg hc));clear HDD I2;go_wp2;go_ret;exact ⟨⟨by rw [HD.out];rfl,fun m' c=>by rw [HD.out] at c;cases c⟩,B1.out.setCell hR _⟩
 · have h0:=ta72_70
   have h1:=ta72_71;have h2:=ta72_72;have f1:=rf 1;clear rf;show Calls prog 19 #[_,.iface 105 (.string a)] w _;have HFZ:Hid (∀ i,(m.fs.getD i T.f2z).le 1048576):=fun i=>⟨Nat.le_trans (I.out.ok.fz i).1 dc_,Nat.le_trans (I.out.ok.fz i).2 dc_⟩;go_enter func19,ntmps19
   go_upto_region 13 with fail
   go_wp2_with fail
   refine (T.c45 fa fc m.fs a w (by have:=I.out.ok.fl;omega) HFZ.out I.out.nf.1).mono ?_;rintro e w1 ⟨⟨ga,gc,cd,gs,rfl,hnf,hDR⟩,hb1⟩;have I1:=hI_ (I.out.below hb1);have HNF:=hI_ hnf;have q1:=I1.out.cr.cell 1;have q2:=I1.out.cr.opn 1;dsimp only [List.getElem?_cons_zero,List.getElem?_cons_succ] at q1;have B1:Hid (Below b0 w w1):=hb1.mono hb0;have HDD:Hid (dn m (eDrop a)=if cd=0 then some ⟨m.ep,gs,m.s⟩ else none):=by
    show _=_;by_cases hc:cd=0
    · subst hc
      rw [if_pos rfl,dn_3,drF_0 hDR];rfl
    rw [if_neg hc,dn_3,drF_n hDR hc];rfl
   have I2:Hid (cd=0->ImX b0 R ⟨m.ep,gs,m.s⟩ ga gc H B bT bR bP rv (w1.setCell ⟨R,1,none⟩ (.slice ga gs.length gc))):=fun hc=>by
    subst hc;have hs:=drop_small hDR I.out.ok.fz;exact I1.out.fs HNF.out hb0 hs.1 hs.2
   clear hnf hb1 hDR r0 r1 r2 f1;by_cases hc:cd=0
   · subst hc
     have HD:=hI_ (HDD.out.trans (if_pos rfl));clear HDD;go_wp2;go_ret;exact ⟨⟨by rw [HD.out];rfl,fun m' c=>by rw [HD.out] at c;cases c;exact ⟨_,_,_,_,_,_,_,_,I2.out sm_⟩⟩,B1.out.setCell hR _⟩
   have hc':(cd==0)=false:=by simpa using hc
   have HD:=hI_ (HDD.out.trans (if_neg hc));clear HDD I2;go_wp2;go_ret;exact ⟨⟨by rw [HD.out];rfl,fun m' c=>by rw [HD.out] at c;cases c⟩,B1.out.setCell hR _⟩
 · have h0:=ta74_70
   have h1:=ta74_71;have h2:=ta74_72;have h3:=ta74_74;clear rf;show Calls prog 19 #[_,.iface 107 (.agg #[.string km.nm,.string km.tl,.string km.ar,.slice ai ls.length ci,.int .i64 c,.string t])] w _;have HXL:=hI_ hxl;have HLK:Hid (LksAt w ai ls):=HLK.out;have HKO:=hI_ (keepF_ok (m:=km) (ls:=ls) (c:=c) (t:=t) I.out.ok.st);have HSK:=hI_ (st_keep (m:=km) (ls:=ls) (c:=c) (t:=t) I.out.ok.st);have HD4:Hid (dn m (eRan km ls c t)=_):=dn_4;clear hxl;go_enter func19,ntmps19
   go_upto_region 16 with fail
   obtain ⟨y,hy⟩:∃ q:World,q=w.alloc (.cells #[.string km.nm,.string km.tl,.string km.ar,.slice ai ls.length ci,.int .i64 c,.string t] 107):=⟨_,rfl⟩;have by1:Below w.heap.size w y:=by rw [hy];exact bA_
   have CE:Hid (Cl y w.heap.size 107 [.string km.nm,.string km.tl,.string km.ar,.slice ai ls.length ci,.int .i64 c,.string t]):=by show Cl _ _ _ _;rw [hy];exact cl_new w [_,_,_,_,_,_] 107
   rw [<- hy];have IY:=hI_ (I.out.below by1);clear hy r0 r1 r2;have HS:Hid (∀ u,Below y.heap.size y u->u.cell? ⟨R,2,none⟩=some (.pointer (some ⟨H,0,none⟩))/\u.cell? ⟨w.heap.size,0,none⟩=some (.string km.nm)/\u.cell? ⟨w.heap.size,1,none⟩=some (.string km.tl)/\u.cell? ⟨w.heap.size,2,none⟩=some (.string km.ar)/\u.cell? ⟨w.heap.size,3,none⟩=some (.slice ai ls.length ci)/\u.cell? ⟨w.heap.size,4,none⟩=some (.int .i64 c)/\u.cell? ⟨w.heap.size,5,none⟩=some (.string t)):=fun u hu=>by
    have h1:=IY.out.cr.below hu IY.out.cr.lt;have h2:=CE.out.below hu CE.out.lt;exact ⟨h1.cell 2,h2.cell 0,h2.cell 1,h2.cell 2,h2.cell 3,h2.cell 4,h2.cell 5⟩
   have bd:Below y.heap.size y y.drew:=(Below.refl _ _).drew;refine wp_region_held_drew (S:=fun u=>u.cell? ⟨R,2,none⟩=some (.pointer (some ⟨H,0,none⟩))/\u.cell? ⟨w.heap.size,0,none⟩=some (.string km.nm)/\u.cell? ⟨w.heap.size,1,none⟩=some (.string km.tl)/\u.cell? ⟨w.heap.size,2,none⟩=some (.string km.ar)/\u.cell? ⟨w.heap.size,3,none⟩=some (.slice ai ls.length ci)/\u.cell? ⟨w.heap.size,4,none⟩=some (.int .i64 c)/\u.cell? ⟨w.heap.size,5,none⟩=some (.string t)) kr_ (HS.out _ bd) fun hH=>?_;refine tq 0 hH ?_
   try simp only [qq]
   refine tq 1 hH ?_
   try simp only [qq]
   refine tq 2 hH ?_
   try simp only [qq]
   refine tq 3 hH ?_
   try simp only [qq]
   refine tq 4 hH ?_
   try simp only [qq]
   refine tq 5 hH ?_
   try simp only [qq]
   refine tq 6 hH ?_
   try simp only [qq]
   refine tq 7 hH ?_
   try simp only [qq]
   refine tq 8 hH ?_
   try simp only [qq]
   refine tq 9 hH ?_
   try simp only [qq]
   have ID:=hI_ (IY.out.below bd);have LD:=hI_ (lks_below (lks_below HLK.out by1) bd);have hgs:∀ i,(m.s.rs.getD i r3z).gs.length<=1048576:=fun i=>Nat.le_trans (st_gs I.out.ok.st i) dc_;have HC:=hI_ (c46 B H bT bR bP m.s.wd m.s.ts m.s.rs rv km ls c t ai ci y.drew ID.out.sh I.out.ok.st.1 (asc_of_ok I.out.ok.st) I.out.ok.st.2.1.1 I.out.ok.st.2.2.1 hgs HXL.out.2.2.1 HXL.out.2.2.2.1.1 HXL.out.2.2.2.1.2 HXL.out.2.2.2.2 LD.out);clear hgs;refine rq 10 fun K hK=>?_;go_simp;refine HC.out.mono ?_;rintro e w1 ⟨⟨rfl,hKS⟩,hbB,hKF⟩;have BD:Hid (Below b0 w w1):=((by1.mono hb0).trans (bd.mono (by have:=by1.size;omega))).trans (hbB.mono I.out.hB);have CR1:Hid (Cl w1 R 55 [.int .i64 m.ep,.slice fa m.fs.length fc,.pointer (some ⟨H,0,none⟩)]):=(hKF R 55 (cl_ofT ID.out.cr) dc_).trans ID.out.cr;have CE1:=(hKF w.heap.size 107 (cl_ofT (CE.out.below bd CE.out.lt)) dc_).trans (CE.out.below bd CE.out.lt);have CE1:Cl w1 w.heap.size 107 [.string km.nm,.string km.tl,.string km.ar,.slice ai ls.length ci,.int .i64 c,.string t]:=CE1;have NF1:=hI_ (newF_h ID.out.nf hbB.size (fun q hq=>hKF q 40 hq dc_) (Nat.le_refl b0));have HKS:=hI_ hKS;have hH1:=CR1.out.cell 2;clear HC hKS hKF hbB hH;refine hK.out _ _ ⟨hH1,CE1.cell 0,CE1.cell 1,CE1.cell 2,CE1.cell 3,CE1.cell 4,CE1.cell 5⟩ fun hH=>?_;clear hK K hH1 CE1
   try simp only [qq]
   refine tq 11 hH ?_
   try simp only [qq]
   refine wpAnyH_done kr_ ?_ _;clear hH HS CE IY ID LD;obtain ⟨cd,hcd⟩:∃ cd,cd=keepC m.s.wd m.s.ts m.s.rs km ls c t:=⟨_,rfl⟩;rw [<- hcd] at HKO HSK HKS ⊢;clear hcd;by_cases hc:cd=0
   · subst hc
     have HD:Hid (dn m (eRan km ls c t)=some ⟨m.ep,m.fs,⟨m.s.wd,(putAll m.s.wd (fmL ls c t) (m.s.ts,true)).1,putR m.s.rs (recR m.s.wd km ls c t)⟩⟩):=by
      have h:=HD4.out;rw [HKO.out.1 rfl] at h;exact h.trans (if_pos rfl)
     obtain ⟨rv1,hs1⟩:=HKS.out rfl;have IF:Hid (ImM b0 R ⟨m.ep,m.fs,⟨m.s.wd,(putAll m.s.wd (fmL ls c t) (m.s.ts,true)).1,putR m.s.rs (recR m.s.wd km ls c t)⟩⟩ w1):=⟨_,_,_,_,_,_,_,_,⟨⟨e0,e1,I.out.ok.fl,I.out.ok.fz,HSK.out rfl⟩,CR1.out,NF1.out,hs1,I.out.hB,hR⟩⟩;clear hs1 HKS HKO HSK HD4;go_wp2;go_ret;exact ⟨⟨by rw [HD.out];rfl,fun m' c=>by rw [HD.out] at c;cases c;exact IF.out⟩,BD.out⟩
   have hc':(cd==0)=false:=by simpa using hc
   have HD:Hid (dn m (eRan km ls c t)=none):=by
    have h:=HD4.out;rw [HKO.out.2 hc] at h;exact h.trans (if_neg hc)
   clear HKS HKO HSK HD4;go_wp2;go_ret;exact ⟨⟨by rw [HD.out];rfl,fun m' c=>by rw [HD.out] at c;cases c⟩,BD.out⟩
 have h0:=ta76_70;have h1:=ta76_71;have h2:=ta76_72;have h3:=ta76_74;have h4:=ta76_76;have f2:=rf 2;clear rf;show Calls prog 19 #[_,.iface 110 (.agg #[])] w _;have HD:Hid (dn m eClear=_):=dn_5;obtain ⟨pl,hC,_⟩:=I.out.sh;have hw0:=hC.blk 0 _ rfl;have hHl:=hC.lt;clear hC;go_enter func19,ntmps19
 go_upto_region 19 with fail
 obtain ⟨y,hy⟩:∃ q:World,q=w.alloc (.cells #[] 110):=⟨_,rfl⟩;have by1:Below w.heap.size w y:=by rw [hy];exact bA_
 rw [<- hy];have q2:=(by1.cell (p:=⟨R,2,none⟩) hRl).trans r2;have q0:=(by1.cell (p:=⟨H,0,none⟩) hHl).trans hw0;have IY:=hI_ (I.out.below by1);have hys:=by1.size;clear hy r0 r1 r2 f2 hw0
 go_wp2_with fail
 refine (c17 ⟨m.s.wd,[],[]⟩ none none 0 0 y (st_nil I.out.ok.st.1) (st_le (st_nil I.out.ok.st.1)) ⟨.inl rfl,.inl rfl⟩ (max_below hmx by1)).mono ?_;rintro e w2 ⟨⟨H',bT',bR',bP',rv',rfl,hs⟩,hb2⟩;have I2:=hI_ (IY.out.below hb2);have I3:=hI_ (I2.out.ts (s':=⟨m.s.wd,[],[]⟩) hs om_ (st_nil I.out.ok.st.1));have p2:=I2.out.cr.cell 2;have pf:=I2.out.cr.opn 2;dsimp only [List.getElem?_cons_zero,List.getElem?_cons_succ] at p2;have B2:Hid (Below b0 w w2):=(by1.mono hb0).trans (hb2.mono om_);clear hs hb2 q2 q0;go_wp2;go_ret;exact ⟨⟨by rw [HD.out];rfl,fun m' c=>by rw [HD.out] at c;cases c;exact ⟨_,_,_,_,_,_,_,_,I3.out⟩⟩,B2.out.setCell hR _⟩
end Go.Proofs.YtlckdgjfniglfaaGreatDoor
namespace Go.Proofs.YtlckdgjfniglfaaGreatDoor
open Proofs.Tryz
open Go.RowKit
def MeO (w:World) (b:Nat) (m:MS) (vs:List Value):Prop:=MOk m/\∃ fa fc ta tc ra rc,vs=[.int .i64 0,.int .i64 m.ep,.slice fa m.fs.length fc,.int .i64 m.s.wd,.slice ta m.s.ts.length tc,.slice ra m.s.rs.length rc]/\T.NewF b w fa m.fs/\StOwn w b m.s.ts m.s.rs (.slice ta m.s.ts.length tc) (.slice ra m.s.rs.length rc)
def Rp7 (w:World) (es:List ByteArray) (W:Int) (e:Ending) (w':World):Prop:=∃ vs,e=.returned (.agg vs.toArray)/\((¬ RpIn es W/\vs=[.int .i64 1,.int .i64 0,.slice none 0 0,.int .i64 0,.slice none 0 0,.slice none 0 0])\/(RpIn es W/\∃ o,IsRp RE es (m00 W) o/\((o=none/\vs=[.int .i64 2,.int .i64 0,.slice none 0 0,.int .i64 0,.slice none 0 0,.slice none 0 0])\/∃ m,o=some m/\MeO w' w.heap.size m vs)))
theorem MeO.keep {w w':World} {b b':Nat} {m:MS} {vs:List Value} (h:MeO w b m vs) (hs:w.heap.size<=w'.heap.size) (hk:∀ q t,OfT w q t->t≠31->w'.heap[q]?=w.heap[q]?) (hb:b'<=b):MeO w' b' m vs:=by
 obtain ⟨h0,fa,fc,ta,tc,ra,rc,h1,h2,h3⟩:=h;exact ⟨h0,fa,fc,ta,tc,ra,rc,h1,newF_h h2 hs (fun q hq=>hk q 40 hq dc_) hb,stOwn_low (stOwn_keep h3 (fun q t hT ht=>hk q t hT (by rcases ht with rfl | rfl | rfl <;> decide))) hb⟩
theorem fin7 {w u z:World} {vs:List Value} {es:List ByteArray} {W:Int} {tm:Array Value} (hc:Cl u w.heap.size 31 [.int .i64 0,.int .i64 0,.slice none 0 0,.int .i64 0,.slice none 0 0,.slice none 0 0]) (cz:Cl z w.heap.size 31 vs) (oz:OnB w.heap.size u z) (hb:Below w.heap.size w u) (hl:vs.length=6) (t4:tm.getD 4 undef=.pointer (some ⟨w.heap.size,0,none⟩)) (hI:∀ z:World,u.heap.size<=z.heap.size->(∀ q t,OfT u q t->t≠31->z.heap[q]?=u.heap[q]?)->Rp7 w es W (.returned (.agg vs.toArray)) z):bodyPost prog f7 (fun e w'=>Rp7 w es W e w'/\Below w.heap.size w w') .ret ⟨tm,[]⟩ z:=
 bodyPost_ret (v:=.agg vs.toArray) (results_blk (P:=prog) (ty:=31) rfl tm z w.heap.size vs _ t4 cz.blk underlying31 rfl (by rw [hl];kernel_rfl)) rfl ⟨hI z (Nat.le_of_eq oz.size.symm) (fun q t hT ht=>oz.block q (fun e=>ht (ofT_one (e▸hT) (cl_ofT hc)))),hb.trans (oz.below lr_)⟩
theorem c7 (a:Option Addr) (cap:Nat) (es:List ByteArray) (W:Int) (w:World) (hl:es.length<=1048576) (hs:∀ i,(es.getD i ByteArray.empty).size<=1048576) (hat:StrsAt w a es) (hmx:MaxAt w):
 Calls prog 7 #[.slice a es.length cap,.int .i64 W] w fun e w'=>Rp7 w es W e w'/\Below w.heap.size w w':=by
 have HAT:=hI_ hat;have HSZ:=hI_ hs;have HMX:=hI_ hmx;clear hat hs hmx;go_enter func7,ntmps7
 go_upto_region 1 with fail
 obtain ⟨V,hV⟩:∃ V:World,V=w.alloc (.cells #[.int .i64 0,.int .i64 0,.slice none 0 0,.int .i64 0,.slice none 0 0,.slice none 0 0] 31):=⟨_,rfl⟩;rw [<- hV];have bV:Below w.heap.size w V:=by rw [hV];exact bA_
 have CR:Hid (Cl V w.heap.size 31 [.int .i64 0,.int .i64 0,.slice none 0 0,.int .i64 0,.slice none 0 0,.slice none 0 0]):=by show Cl _ _ _ _;rw [hV];exact cl_new w [.int .i64 0,.int .i64 0,.slice none 0 0,.int .i64 0,.slice none 0 0,.slice none 0 0] 31
 have hz:V.heap.size=w.heap.size+1:=by rw [hV];simp
 have HZ:=hI_ hz;clear hV hz;have HON:Hid (∀ v∈([.int .i64 1,.int .i64 0,.slice none 0 0,.int .i64 0,.slice none 0 0,.slice none 0 0]:List Value),v.oneCell'=true):=one6 rfl rfl rfl rfl rfl rfl;by_cases hw:1<=W/\W<=8;rotate_left
 · have HBD:Hid (¬ RpIn es W):=fun h=>hw h.1
   have hd:decide (1<=W/\W<=8)=false:=decide_eq_false hw
   go_wp2_with fail
   refine (c16 W V).mono ?_;rintro e V1 ⟨rfl,hv1⟩;obtain rfl:=hv1.symm;rw [hd]
   go_wp2_with (refine wl_stN rfl 31 _ _ rfl (B:=w.heap.size) (j:=0) rfl (vs:=[.int .i64 1,.int .i64 0,.slice none 0 0,.int .i64 0,.slice none 0 0,.slice none 0 0]) rfl CR.out lr_ HON.out kr_ ?_;intro z cz oz)
   exact fin7 CR.out cz oz bV rfl rfl (fun z _ _=>⟨_,rfl,.inl ⟨HBD.out,rfl⟩⟩)
 have hd:decide (1<=W/\W<=8)=true:=decide_eq_true hw
 go_wp2_with fail
 refine (c16 W V).mono ?_;rintro e V1 ⟨rfl,hv1⟩;obtain rfl:=hv1.symm;rw [hd];by_cases hbig:1000<es.length
 · have HBD:Hid (¬ RpIn es W):=fun h=>by have:=h.2;omega
   have hb1:(1000:Int)<es.length:=om_
   go_wp2_with (refine wl_stN rfl 31 _ _ rfl (B:=w.heap.size) (j:=0) rfl (vs:=[.int .i64 1,.int .i64 0,.slice none 0 0,.int .i64 0,.slice none 0 0,.slice none 0 0]) rfl CR.out lr_ HON.out kr_ ?_;intro z cz oz)
   exact fin7 CR.out cz oz bV rfl rfl (fun z _ _=>⟨_,rfl,.inl ⟨HBD.out,rfl⟩⟩)
 have hb1:¬ (1000:Int)<es.length:=om_;have HIN:Hid (RpIn es W):=⟨hw,om_⟩
 go_upto_region 3 with fail
 go_wp2_with fail
 refine (c17 ⟨W,[],[]⟩ none none 0 0 V (st_nil hw) (st_le (st_nil hw)) ⟨.inl rfl,.inl rfl⟩ (max_below HMX.out bV)).mono ?_;rintro e V2 ⟨⟨H,bT,bR,bP,rv,rfl,hsh⟩,hb2⟩;have HSH:=hI_ hsh;have b2:Below w.heap.size w V2:=bT_ bV hb2;have C2:=hI_ (CR.out.below hb2 CR.out.lt);have hV2:w.heap.size+1<=V2.heap.size:=by have:=hb2.size;have:=HZ.out;omega
 have HVB:Hid (w.heap.size+1<=V.heap.size):=Nat.le_of_eq HZ.out.symm;clear hsh hb2 CR hd
 go_upto_region 4 with fail
 obtain ⟨U,hU⟩:∃ U:World,U=V2.alloc (.cells #[.int .i64 0,.slice none 0 0,.pointer (some ⟨H,0,none⟩)] 55):=⟨_,rfl⟩;rw [<- hU];have bU:Below V2.heap.size V2 U:=by rw [hU];exact bA_
 have HI:Hid (ImM (w.heap.size+1) V2.heap.size (m00 W) U):=by
  refine ⟨none,0,H,V.heap.size,bT,bR,bP,rv,mok0 hw,?_,⟨.inl rfl,.inl rfl⟩,HSH.out.below' bU,HVB.out,hV2⟩;rw [hU];exact cl_new V2 [_,_,_] 55
 have CU:=hI_ (C2.out.below bU C2.out.lt);have HB:=hI_ (bT_ b2 bU);clear hU bU C2 b2 HSH hb1;generalize V2.heap.size=R at*
 go_wp2_with fail
 go_loopw [25] (fun i wr=>∃ (k:Nat) (f:Nat->N10) (m:MS),i=.int .i64 k/\k<=es.length/\Hid (∀ j,j<k->RE (eL es j) (f j) true)/\Hid (rn f (m00 W) k=some m)/\Hid (Below w.heap.size w wr)/\Hid (Cl wr w.heap.size 31 [.int .i64 0,.int .i64 0,.slice none 0 0,.int .i64 0,.slice none 0 0,.slice none 0 0])/\Hid (ImM (w.heap.size+1) R m wr)) (fun i _=>es.length - (intOf i).toNat)
 case atStart=>exact ⟨0,fun _=>n10z,_,rfl,Nat.zero_le _,fun j h=>absurd h (Nat.not_lt_zero _),rfl,HB,CU,HI⟩
 obtain ⟨k,f,m,rfl,hk,HF,HR,HBw,HC,HM⟩:=hrel;clear HI CU HB;by_cases hlt:k<es.length;rotate_left
 · obtain rfl:k=es.length:=om_
   obtain ⟨fa,fc,H1,B1,bT1,bR1,bP1,rv1,hI⟩:=HM.out;have bd:Below wr.heap.size wr wr.drew:=(Below.refl _ _).drew;have ID:=hI_ (hI.below bd);have CD:=hI_ (HC.out.below bd HC.out.lt);have BD:=hI_ (bT_ HBw.out bd);clear hI HM
   go_upto_region 11 with fail
   refine wp_region_held_drew (S:=fun u=>u.cell? ⟨R,0,none⟩=some (.int .i64 m.ep)/\u.cell? ⟨R,1,none⟩=some (.slice fa m.fs.length fc)/\u.cell? ⟨R,2,none⟩=some (.pointer (some ⟨H1,0,none⟩))) kr_ ⟨ID.out.cr.cell 0,ID.out.cr.cell 1,ID.out.cr.cell 2⟩ fun hH=>?_;refine tq 0 hH ?_
   try simp only [qq]
   refine tq 1 hH ?_
   try simp only [qq]
   refine tq 2 hH ?_
   try simp only [qq]
   refine tq 3 hH ?_
   try simp only [qq]
   refine tq 4 hH ?_
   try simp only [qq]
   refine tq 5 hH ?_
   try simp only [qq]
   have HC20:=hI_ (c20 B1 H1 bT1 bR1 bP1 m.s.wd m.s.ts m.s.rs rv1 wr.drew ID.out.sh ID.out.ok.st.1 (Nat.le_trans ID.out.ok.st.2.1.1 dc_) (Nat.le_trans ID.out.ok.st.2.2.1 dc_) (fun i=>Nat.le_trans (st_gs ID.out.ok.st i) dc_));refine rq 6 fun K hK=>?_;go_simp;refine HC20.out.mono ?_;rintro e w1 ⟨⟨ta,tc,ra,rc,rfl,hso⟩,hb1⟩;have I1:=hI_ (ID.out.below hb1);have C1:=hI_ (CD.out.below hb1 CD.out.lt);have B1w:=hI_ (bT_ BD.out hb1);have HSO:=hI_ hso;clear HC20 hso hb1 hH;refine hK.out _ _ ⟨I1.out.cr.cell 0,I1.out.cr.cell 1,I1.out.cr.cell 2⟩ fun hH=>?_;clear hK K
   try simp only [qq]
   refine tq 7 hH ?_
   try simp only [qq]
   refine rq 8 fun K hK=>?_;refine st_stN rfl 31 _ _ rfl (B:=w.heap.size) (j:=0) rfl (vs:=[.int .i64 0,.int .i64 m.ep,.slice fa m.fs.length fc,.int .i64 m.s.wd,.slice ta m.s.ts.length tc,.slice ra m.s.rs.length rc]) rfl C1.out lr_ (one6 rfl rfl rfl rfl rfl rfl) kr_ ?_;intro z cz oz;have CZ:=hI_ cz;have OZ:=hI_ oz;have hRR:R≠w.heap.size:=by have:=I1.out.hR;omega
   have c3:=I1.out.cr.on oz hRR;clear hH cz oz;refine hK.out _ _ ⟨c3.cell 0,c3.cell 1,c3.cell 2⟩ fun hH=>?_;clear hK K c3
   try simp only [qq]
   refine wpAnyH_done kr_ ?_ _;clear hH
   go_wp2_with fail
   have HME:Hid (MeO w1 w.heap.size m [.int .i64 0,.int .i64 m.ep,.slice fa m.fs.length fc,.int .i64 m.s.wd,.slice ta m.s.ts.length tc,.slice ra m.s.rs.length rc]):=⟨I1.out.ok,fa,fc,ta,tc,ra,rc,rfl,newF_h I1.out.nf lr_ (fun _ _=>rfl) om_,stOwn_low HSO.out BD.out.size⟩;exact fin7 C1.out CZ.out OZ.out B1w.out rfl rfl (fun z hz1 hz2=>⟨_,rfl,.inr ⟨HIN.out,_,rp_all HF.out HR.out,.inr ⟨m,rfl,HME.out.keep hz1 hz2 lr_⟩⟩⟩)
 obtain ⟨b,off,hst⟩:=strs_some (strs_below HAT.out HBw.out);rcases hst with h0 | ⟨rfl,hbw,hce⟩
 · rw [h0] at hlt;exact absurd hlt (Nat.not_lt_zero _)
 have hc0:=hce k hlt;clear hce;have HRD:=hI_ (c18 (es.getD k ByteArray.empty) wr (HSZ.out k) (max_below HMX.out HBw.out));have HEL:Hid ((es.getD k ByteArray.empty).data.toList=eL es k):=rfl;generalize es.getD k ByteArray.empty=s at*
 go_upto_region 7 with fail
 go_wp2_with fail
 refine HRD.out.mono ?_;rintro e w1 ⟨hx,hb1⟩;rw [HEL.out] at hx;obtain ⟨fa,fc,H1,B1,bT1,bR1,bP1,rv1,hI⟩:=HM.out;have I1:=hI_ (hI.below hb1);have B1:=hI_ (bT_ HBw.out hb1);have C1:=hI_ (HC.out.below hb1 HC.out.lt);clear HRD hI HM hc0 HC HBw hb1;rcases hx with ⟨rfl,hz⟩ | ⟨x,ai,ci,rfl,hx,_,hxl,hlk⟩
 · have HBAD:=hI_ (hz n10z)
   have HON:Hid (∀ v∈([.int .i64 2,.int .i64 0,.slice none 0 0,.int .i64 0,.slice none 0 0,.slice none 0 0]:List Value),v.oneCell'=true):=one6 rfl rfl rfl rfl rfl rfl;clear hz
   go_wp2_with (refine wl_stN rfl 31 _ _ rfl (B:=w.heap.size) (j:=0) rfl (vs:=[.int .i64 2,.int .i64 0,.slice none 0 0,.int .i64 0,.slice none 0 0,.slice none 0 0]) rfl C1.out lr_ HON.out kr_ ?_;intro z cz oz)
   exact fin7 C1.out cz oz B1.out rfl rfl (fun z _ _=>⟨_,rfl,.inr ⟨HIN.out,_,rp_no hlt HF.out HR.out HBAD.out,.inl ⟨rfl,rfl⟩⟩⟩)
 have HX:=hI_ hx;have HCD:=hI_ (c19 (w.heap.size+1) R m x ai ci w1 ⟨_,_,_,_,_,_,_,_,I1.out⟩ (Nat.le_trans (Nat.succ_le_of_lt C1.out.lt) lr_) (max_below HMX.out B1.out) (hx.1 rfl).1 hxl hlk.at');clear hx hxl hlk;generalize ifE x ai ci=xv at*
 go_upto_region 8 with fail
 go_wp2_with fail
 refine HCD.out.mono ?_;rintro e w2 ⟨⟨rfl,hm2⟩,hb2⟩;have HM2:=hI_ hm2;have C2:=hI_ (C1.out.below hb2 om_);have B2:=hI_ (B1.out.trans (hb2.mono om_));clear HCD hm2 hb2 C1 B1 I1
 cases hd:dn m x with
 | none=>
  have HD:=hI_ hd;have HON:Hid (∀ v∈([.int .i64 2,.int .i64 0,.slice none 0 0,.int .i64 0,.slice none 0 0,.slice none 0 0]:List Value),v.oneCell'=true):=one6 rfl rfl rfl rfl rfl rfl;clear hd HM2
  go_wp2_with (refine wl_stN rfl 31 _ _ rfl (B:=w.heap.size) (j:=0) rfl (vs:=[.int .i64 2,.int .i64 0,.slice none 0 0,.int .i64 0,.slice none 0 0,.slice none 0 0]) rfl C2.out lr_ HON.out kr_ ?_;intro z cz oz)
  exact fin7 C2.out cz oz B2.out rfl rfl (fun z _ _=>⟨_,rfl,.inr ⟨HIN.out,_,rp_bad hlt HF.out HR.out HX.out HD.out,.inl ⟨rfl,rfl⟩⟩⟩)
 | some m'=>
  have HD:=hI_ hd;have HMM:=hI_ (HM2.out m' hd);clear hd HM2;go_wp2;go_roundw
  case rel=>exact ⟨k+1,upd f k x,m',by go_num,om_,(rp_next HF.out HR.out HX.out HD.out).1,(rp_next HF.out HR.out HX.out HD.out).2,B2,C2,HMM⟩
  case measure=>simp [intOf];omega
structure Sml (m:MS):Prop where
 fl:m.fs.length<=40
 tl:m.s.ts.length<=300
 rl:m.s.rs.length<=150
 gl:∀ i,(m.s.rs.getD i r3z).gs.length<=1000
 gz:gsum m.s.rs<=150000
def Rd (w:World) (cd:Int) (m:MS) (vs:List Value):Prop:=∃ fa fc ta tc ra rc,vs=[.int .i64 cd,.int .i64 m.ep,.slice fa m.fs.length fc,.int .i64 m.s.wd,.slice ta m.s.ts.length tc,.slice ra m.s.rs.length rc]/\T.FilesAt w fa m.fs/\StAt w ta ra m.s
def Me (w:World) (b:Nat) (cd:Int) (m:MS) (vs:List Value):Prop:=∃ fa fc ta tc ra rc,vs=[.int .i64 cd,.int .i64 m.ep,.slice fa m.fs.length fc,.int .i64 m.s.wd,.slice ta m.s.ts.length tc,.slice ra m.s.rs.length rc]/\T.NewF b w fa m.fs/\StOwn w b m.s.ts m.s.rs (.slice ta m.s.ts.length tc) (.slice ra m.s.rs.length rc)
def mzz:MS:=⟨0,[],⟨0,[],[]⟩⟩
def Out (R:List UInt8->N10->Bool->Prop) (es:List ByteArray) (W:Int) (cd:Int) (m:MS):Prop:=Sml m/\((¬ RpIn es W/\cd=1/\m=mzz)\/(RpIn es W/\∃ o,IsRp R es (m00 W) o/\((o=none/\cd=2/\m=mzz)\/(o=some m/\cd=0))))
theorem out_one {es:List ByteArray} {W:Int} {cd cd':Int} {m m':MS} (h:Out RES es W cd m) (h':Out RE es W cd' m'):cd'=cd/\m'=m:=by
 obtain ⟨_,h⟩:=h;obtain ⟨_,h'⟩:=h';rcases h with ⟨h1,rfl,rfl⟩ | ⟨h1,o,h2,h3⟩
 · rcases h' with ⟨_,rfl,rfl⟩ | ⟨k,_⟩
   · exact ⟨rfl,rfl⟩
   exact absurd k h1
 rcases h' with ⟨k,_⟩ | ⟨_,o',k2,k3⟩
 · exact absurd h1 k
 have:=rp_one h2 k2;subst this;rcases h3 with ⟨rfl,rfl,rfl⟩ | ⟨rfl,rfl⟩
 · rcases k3 with ⟨_,rfl,rfl⟩ | ⟨k,_⟩
   · exact ⟨rfl,rfl⟩
   cases k
 rcases k3 with ⟨k,_⟩ | ⟨k,rfl⟩
 · cases k
 exact ⟨rfl,(Option.some.inj k).symm⟩
theorem gsum_b (rs:List R3) (h:∀ x∈rs,x.gs.length<=1000):gsum rs<=rs.length*1000:=by
 induction rs with
 | nil=>decide
 | cons x r ih=>
  have:=ih (fun y hy=>h y (List.mem_cons_of_mem _ hy));have hx:=h x (List.mem_cons_self ..);unfold gsum at this ⊢;simp only [List.map_cons,List.sum_cons,List.length_cons];omega
theorem sml_of {m:MS} (h:MOk m):Sml m:=by
 have h1:=h.st.2.1.1;have h2:=h.st.2.2.1;have h3:=st_gs h.st;refine ⟨h.fl,h1,h2,h3,Nat.le_trans (gsum_b _ (fun x hx=>?_)) om_⟩;obtain ⟨i,hi,rfl⟩:=List.getElem_of_mem hx;have:=h3 i
 rwa [show m.s.rs.getD i r3z=m.s.rs[i] from by simp [List.getD,hi]] at this
theorem sml_z:Sml mzz:=⟨dc_,dc_,dc_,fun i=>by show (0:Nat)<=1000;omega,dc_⟩
theorem me_z (w:World) (b:Nat) (cd:Int):Me w b cd mzz [.int .i64 cd,.int .i64 0,.slice none 0 0,.int .i64 0,.slice none 0 0,.slice none 0 0]:=⟨none,0,none,0,none,0,rfl,⟨.inl rfl,.inl rfl⟩,stOwn_nil _ _⟩
theorem Me.rd {w:World} {b:Nat} {cd:Int} {m:MS} {vs:List Value} (h:Me w b cd m vs):Rd w cd m vs:=by
 obtain ⟨fa,fc,ta,tc,ra,rc,h1,h2,h3⟩:=h;exact ⟨fa,fc,ta,tc,ra,rc,h1,h2.1,stAt_own h3⟩
theorem Rd.below {w w':World} {cd:Int} {m:MS} {vs:List Value} (h:Rd w cd m vs) (hb:Below w.heap.size w w'):Rd w' cd m vs:=by
 obtain ⟨fa,fc,ta,tc,ra,rc,h1,h2,h3⟩:=h;exact ⟨fa,fc,ta,tc,ra,rc,h1,T.files_below h2 hb,h3.below hb⟩
theorem Me.keep {w w':World} {b:Nat} {cd:Int} {m:MS} {vs:List Value} (h:Me w b cd m vs) (hs:w.heap.size<=w'.heap.size) (hk:∀ q,b<=q->q<w.heap.size->w'.heap[q]?=w.heap[q]?):Me w' b cd m vs:=by
 obtain ⟨fa,fc,ta,tc,ra,rc,h1,h2,h3⟩:=h;refine ⟨fa,fc,ta,tc,ra,rc,h1,?_,h3.keep hk⟩;obtain ⟨hf,h⟩:=h2;rcases h with h0 | ⟨g,rfl,hg,ho,ht⟩
 · exact ⟨.inl h0,.inl h0⟩
 have e:=hk g hg ho.1;refine ⟨?_,.inr ⟨g,rfl,hg,⟨Nat.lt_of_lt_of_le ho.1 hs,fun j hj=>by rw [cell_h e];exact ho.2.1 j hj,fun j=>by rw [froz_h e];exact ho.2.2 j⟩,?_⟩⟩
 · rcases hf with h0 | ⟨b,off,h1,h2,h3⟩
   · exact .inl h0
   injection h1 with h1;injection h1 with h1 h4;subst h1 h4;exact .inr ⟨g,0,rfl,Nat.lt_of_lt_of_le h2 hs,fun i hi=>by rw [cell_h e,cell_h e];exact h3 i hi⟩
 obtain ⟨cur,fr,hc⟩:=ht;exact ⟨cur,fr,e.trans hc⟩
theorem c5r (a:Option Addr) (cap:Nat) (es:List ByteArray) (W:Int) (w:World) (hl:es.length<=1048576) (hs:∀ i,(es.getD i ByteArray.empty).size<=1048576) (hat:StrsAt w a es):
 Calls prog 5 #[.slice a es.length cap,.int .i64 W] w fun e w'=>(∃ cd m vs,e=.returned (.agg vs.toArray)/\Out RES es W cd m/\Rd w' cd m vs)/\Below w.heap.size w w':=by
 refine (c5 a cap es W w hl hs hat).mono ?_;rintro e w' ⟨⟨vs,rfl,h⟩,hb⟩;refine ⟨?_,hb⟩;rcases h with ⟨h1,rfl⟩ | ⟨h1,o,h2,h3⟩
 · exact ⟨1,mzz,_,rfl,⟨sml_z,.inl ⟨h1,rfl,rfl⟩⟩,(me_z w' 0 1).rd⟩
 rcases h3 with ⟨rfl,rfl⟩ | ⟨m,rfl,h3⟩
 · exact ⟨2,mzz,_,rfl,⟨sml_z,.inr ⟨h1,_,h2,.inl ⟨rfl,rfl,rfl⟩⟩⟩,(me_z w' 0 2).rd⟩
 obtain ⟨fv,tv,rv,rfl,h4,h5⟩:=h3.ex;obtain ⟨fa,fc,rfl,hf⟩:=own_files h4;obtain ⟨ta,tc,rfl⟩:=row_sl h5.1;have h5':=h5;obtain ⟨_,vs0,hr0⟩:=h5;obtain ⟨ra,rc,rfl⟩:=row_sl hr0.row;exact ⟨0,m,_,rfl,⟨sml_of h3.ok,.inr ⟨h1,_,h2,.inr ⟨rfl,rfl⟩⟩⟩,fa,fc,ta,tc,ra,rc,rfl,hf,stAt_own h5'⟩
theorem c7r (a:Option Addr) (cap:Nat) (es:List ByteArray) (W:Int) (w:World) (hl:es.length<=1048576) (hs:∀ i,(es.getD i ByteArray.empty).size<=1048576) (hat:StrsAt w a es) (hmx:MaxAt w):
 Calls prog 7 #[.slice a es.length cap,.int .i64 W] w fun e w'=>(∃ cd m vs,e=.returned (.agg vs.toArray)/\Out RE es W cd m/\Me w' w.heap.size cd m vs)/\Below w.heap.size w w':=by
 refine (c7 a cap es W w hl hs hat hmx).mono ?_;rintro e w' ⟨⟨vs,rfl,h⟩,hb⟩;refine ⟨?_,hb⟩;rcases h with ⟨h1,rfl⟩ | ⟨h1,o,h2,h3⟩
 · exact ⟨1,mzz,_,rfl,⟨sml_z,.inl ⟨h1,rfl,rfl⟩⟩,me_z _ _ _⟩
 rcases h3 with ⟨rfl,rfl⟩ | ⟨m,rfl,h3⟩
 · exact ⟨2,mzz,_,rfl,⟨sml_z,.inr ⟨h1,_,h2,.inl ⟨rfl,rfl,rfl⟩⟩⟩,me_z _ _ _⟩
 obtain ⟨h0,h4⟩:=h3;exact ⟨0,m,_,rfl,⟨sml_of h0,.inr ⟨h1,_,h2,.inr ⟨rfl,rfl⟩⟩⟩,h4⟩
theorem c8 (cd:Int) (m:MS) (vs vs':List Value) (w:World) (hS:Sml m) (h:Rd w cd m vs) (h':Rd w cd m vs'):
 Calls prog 8 #[.agg vs.toArray,.agg vs'.toArray] w fun e w'=>e=.returned (.bool true)/\Below w.heap.size w w':=by
 obtain ⟨fa,fc,ta,tc,ra,rc,rfl,h1,h2⟩:=h;obtain ⟨fb,fd,tb,td,rb,rd,rfl,k1,k2⟩:=h';have H1:=hI_ h1;have H2:=hI_ h2;have K1:=hI_ k1;have K2:=hI_ k2;clear h1 h2 k1 k2;go_enter func8,ntmps8
 go_upto_region 1 with fail
 obtain ⟨V,hV⟩:∃ V:World,V=(w.alloc (.cells #[.int .i64 cd,.int .i64 m.ep,.slice fa m.fs.length fc,.int .i64 m.s.wd,.slice ta m.s.ts.length tc,.slice ra m.s.rs.length rc] 31)).alloc (.cells #[.int .i64 cd,.int .i64 m.ep,.slice fb m.fs.length fd,.int .i64 m.s.wd,.slice tb m.s.ts.length td,.slice rb m.s.rs.length rd] 31):=⟨_,rfl⟩;rw [<- hV];have bV:Below w.heap.size w V:=by rw [hV];exact bA_.alloc sm_ _
 have CA:Hid (Cl V w.heap.size 31 [.int .i64 cd,.int .i64 m.ep,.slice fa m.fs.length fc,.int .i64 m.s.wd,.slice ta m.s.ts.length tc,.slice ra m.s.rs.length rc]):=by show Cl _ _ _ _;rw [hV];exact cl_old (cl_new w [_,_,_,_,_,_] 31) _
 have CB:Hid (Cl V (w.heap.size+1) 31 [.int .i64 cd,.int .i64 m.ep,.slice fb m.fs.length fd,.int .i64 m.s.wd,.slice tb m.s.ts.length td,.slice rb m.s.rs.length rd]):=by show Cl _ _ _ _;rw [hV];exact cl_at (xs:=[_,_,_,_,_,_]) sm_
 clear hV;have a0:=CA.out.cell 0;have a1:=CA.out.cell 1;have a2:=CA.out.cell 2;have b0:=CB.out.cell 0;have b1:=CB.out.cell 1;have b2:=CB.out.cell 2;dsimp only [List.getElem?_cons_zero,List.getElem?_cons_succ] at a0 a1 a2 b0 b1 b2
 go_wp2_with fail
 refine (T.c21 fa fb fc fd m.fs V (by have:=hS.fl;omega) (T.files_below H1.out bV) (T.files_below K1.out bV)).mono ?_;rintro e V1 ⟨rfl,hb1⟩;have bV1:=bT_ bV hb1;have CA1:=CA.out.below hb1 CA.out.lt;have CB1:=CB.out.below hb1 CB.out.lt;clear a0 a1 a2 b0 b1 b2;have a3:=CA1.cell 3;have a4:=CA1.cell 4;have a5:=CA1.cell 5;have b3:=CB1.cell 3;have b4:=CB1.cell 4;have b5:=CB1.cell 5;dsimp only [List.getElem?_cons_zero,List.getElem?_cons_succ] at a3 a4 a5 b3 b4 b5;have HC:=hI_ (c22e ta ra tb rb tc rc td rd m.s V1 ⟨by have:=hS.tl;omega,by have:=hS.rl;omega,fun i=>by have:=hS.gl i;omega⟩ (H2.out.below bV1) (K2.out.below bV1));clear hb1 CA CB CA1 CB1
 go_wp2_with fail
 refine HC.out.mono ?_;rintro e V2 ⟨rfl,hb2⟩;have B2:=hI_ (bT_ bV1 hb2);clear HC hb2 a3 a4 a5 b3 b4 b5;go_wp2;go_ret;exact ⟨rfl,B2.out⟩
def mkM (m:MS):Int:=mkN (1+2*(m.fs.length:Int)) m.s.ts m.s.rs
theorem mkM_pos (m:MS):0<mkM m:=by
 unfold mkM;rw [mkN_eq];omega
def Mkd (w:World) (cd:Int) (m:MS) (vs:List Value):Prop:=∃ fa fc ta tc ra rc g,vs=[.int .i64 cd,.int .i64 m.ep,.slice fa m.fs.length fc,.int .i64 m.s.wd,.slice ta m.s.ts.length tc,.slice ra m.s.rs.length rc]/\(m.fs.length=0\/fa=some ⟨g,0,none⟩)/\(m.fs.length=0\/g<w.heap.size)/\T.MarksAt w g m.fs.length/\∃ tt P,MkT (1+2*(m.fs.length:Int)) m.s.ts.length tt/\MkR (1+2*(m.fs.length:Int)+(m.s.ts.length:Int)) m.s.rs P/\StrsAt w ta tt/\RecsAt w ra P
theorem Mkd.below {w w':World} {cd:Int} {m:MS} {vs:List Value} (h:Mkd w cd m vs) (hb:Below w.heap.size w w'):Mkd w' cd m vs:=by
 obtain ⟨fa,fc,ta,tc,ra,rc,g,h1,h2,h3,h4,tt,P,h5,h6,h7,h8⟩:=h;refine ⟨fa,fc,ta,tc,ra,rc,g,h1,h2,h3.imp id (fun k=>Nat.lt_of_lt_of_le k hb.size),?_,tt,P,h5,h6,strs_below h7 hb,recs_below h8 hb⟩;rcases h3 with h3 | h3
 · intro j hj
   omega
 exact T.marks_below h4 h3 hb
theorem newF_g {w:World} {b:Nat} {fa:Option Addr} {fs:List T.F2} (h:T.NewF b w fa fs):∃ g,(fs.length=0\/fa=some ⟨g,0,none⟩)/\(fs.length=0\/T.Open2 w g fs.length)/\((fs.length=0/\g=w.heap.size+1)\/(b<=g/\OfT w g 40)):=by
 rcases h.2 with rfl | ⟨g,h1,h2,h3,h4⟩
 · exact ⟨_,.inl rfl,.inl rfl,.inl ⟨rfl,rfl⟩⟩
 exact ⟨g,.inr h1,.inr h3,.inr ⟨h2,h4⟩⟩
theorem c11 (b:Nat) (cd:Int) (m:MS) (vs:List Value) (w:World) (hb:b<=w.heap.size) (hS:Sml m) (h:Me w b cd m vs):
 Calls prog 11 #[.agg vs.toArray,.int .i64 1] w fun e w'=>(e=.returned (.int .i64 (mkM m))/\Mkd w' cd m vs/\∀ q,OfT w q 31->w'.heap[q]?=w.heap[q]?)/\Below b w w':=by
 obtain ⟨fa,fc,ta,tc,ra,rc,rfl,h1,ht,ws,hr⟩:=h;obtain ⟨g,g1,g2,g3⟩:=newF_g h1;have G1:=hI_ g1;have G2:=hI_ g2;have G3:=hI_ g3;have H1:=hI_ ht;have H2:=hI_ hr;clear h1 ht hr g1 g2 g3;go_enter func11,ntmps11
 go_upto_region 1 with fail
 obtain ⟨V,hV⟩:∃ V:World,V=w.alloc (.cells #[.int .i64 cd,.int .i64 m.ep,.slice fa m.fs.length fc,.int .i64 m.s.wd,.slice ta m.s.ts.length tc,.slice ra m.s.rs.length rc] 31):=⟨_,rfl⟩;rw [<- hV];have bV:Below w.heap.size w V:=by rw [hV];exact bA_
 have CA:Hid (Cl V w.heap.size 31 [.int .i64 cd,.int .i64 m.ep,.slice fa m.fs.length fc,.int .i64 m.s.wd,.slice ta m.s.ts.length tc,.slice ra m.s.rs.length rc]):=by show Cl _ _ _ _;rw [hV];exact cl_new w [_,_,_,_,_,_] 31
 have HZ:Hid (V.heap.size=w.heap.size+1):=by show V.heap.size=_;rw [hV];simp
 clear hV;have RT:=hI_ (own_below H1.out bV);have RR:=hI_ (H2.out.keep (fun q t hT _ _=>bV.block q (ofT_lt hT)));have HG:Hid (∀ q t,OfT V q t->t≠40->q≠g):=fun q t hT ht e=>by
  subst e;rcases G3.out with ⟨_,k⟩ | ⟨_,cur,fr,k⟩
  · have:=ofT_lt hT
    have:=HZ.out;omega
  exact ht (ofT_one hT ⟨cur,fr,(bV.block q (Array.getElem?_eq_some_iff.1 k).1).trans k⟩)
 have a2:=CA.out.cell 2;dsimp only [List.getElem?_cons_zero,List.getElem?_cons_succ] at a2
 go_wp2_with fail
 refine (T.c24 fa g m.fs.length fc V G1.out (by have:=hS.fl;omega) (G2.out.imp id (fun k=>k.below bV))).mono ?_;rintro e V1 ⟨rfl,hbt,hm⟩;clear a2;have HM:=hI_ hm;have C1:Hid (Cl V1 w.heap.size 31 [.int .i64 cd,.int .i64 m.ep,.slice fa m.fs.length fc,.int .i64 m.s.wd,.slice ta m.s.ts.length tc,.slice ra m.s.rs.length rc]):=(hbt.block _ CA.out.lt (HG.out _ 31 (cl_ofT CA.out) dc_)).trans CA.out;have R1:=hI_ (own_keep' RT.out (fun q hq=>hbt.block q (own_lt RT.out hq) (HG.out q 9 (own_ofT RT.out hq) dc_)));have R2:=hI_ (RR.out.keep (fun q t hT ht _=>hbt.block q (ofT_lt hT) (HG.out q t hT (by rcases ht with rfl | rfl <;> decide))));have HB1:Hid (Below b w V1):=by
  refine (bV.mono hb).trans ⟨hbt.os,hbt.tape,hbt.output,hbt.size,fun k hk=>hbt.block k (by have:=HZ.out;omega) (fun e=>?_)⟩;subst e;rcases G3.out with ⟨_,k⟩ | ⟨k,_⟩ <;> omega
 have HL:Hid (m.fs.length=0\/g<V1.heap.size):=G2.out.imp id (fun k=>Nat.lt_of_lt_of_le k.1 (Nat.le_trans bV.size hbt.size));have H31:Hid (∀ q,OfT w q 31->OfT V q 31/\q<V1.heap.size/\V1.heap[q]?=w.heap[q]?):=fun q hq=>by
  have hl:=ofT_lt hq;have h1:=bV.block q hl;have hv:OfT V q 31:=by
   obtain ⟨cur,fr,k⟩:=hq;exact ⟨cur,fr,h1.trans k⟩
  exact ⟨hv,Nat.lt_of_lt_of_le (ofT_lt hv) hbt.size,(hbt.block q (ofT_lt hv) (HG.out q 31 hv dc_)).trans h1⟩
 have HC:=hI_ (c25 (1+2*(m.fs.length:Int)) m.s ta ra tc rc b ws V1 om_ (by have:=hS.fl;have:=hS.tl;have:=hS.rl;have:=hS.gz;omega) (by have:=hS.tl;omega) (by have:=hS.rl;omega) (Nat.le_trans hb (Nat.le_trans bV.size hbt.size)) R1.out R2.out);clear hbt hm;have a3:=C1.out.cell 3;have a4:=C1.out.cell 4;have a5:=C1.out.cell 5;dsimp only [List.getElem?_cons_zero,List.getElem?_cons_succ] at a3 a4 a5
 go_wp2_with fail
 refine HC.out.mono ?_;rintro e V2 ⟨rfl,⟨T,P,hT,hP,hrT,hrP⟩,hch⟩;have HX:Hid ((.returned (.int .i64 (mkN (1+2*(m.fs.length:Int)) m.s.ts m.s.rs))=Ending.returned (.int .i64 (mkM m))/\Mkd V2 cd m [.int .i64 cd,.int .i64 m.ep,.slice fa m.fs.length fc,.int .i64 m.s.wd,.slice ta m.s.ts.length tc,.slice ra m.s.rs.length rc]/\∀ q,OfT w q 31->V2.heap[q]?=w.heap[q]?)/\Below b w V2):=by
  have hk:∀ q,stF (.slice ta m.s.ts.length tc) (.slice ra m.s.rs.length rc) ws m.s.rs.length q->b<=q/\q≠g:=fun q hq=>by
   obtain ⟨k1,_,t,k2,k3⟩:=stF_lo RT.out RR.out hq;exact ⟨k1,HG.out q t k2 (by rcases k3 with rfl | rfl | rfl <;> decide)⟩
  have h31:∀ q,OfT w q 31->V2.heap[q]?=w.heap[q]?:=fun q hq=>by
   obtain ⟨k1,k2,k3⟩:=H31.out q hq;refine (hch.block q k2 (fun k=>?_)).trans k3;obtain ⟨_,_,t,k4,k5⟩:=stF_lo RT.out RR.out k;have:=ofT_one k1 k4;subst this;rcases k5 with k | k | k <;> exact absurd k dc_
  refine ⟨⟨rfl,⟨fa,fc,ta,tc,ra,rc,g,rfl,G1.out,HL.out.imp id (fun k=>Nat.lt_of_lt_of_le k hch.size),?_,T,P,hT,hP,?_,?_⟩,h31⟩,HB1.out.trans (hch.below (Nat.le_trans hb HB1.out.size) (fun q hq=>(hk q hq).1))⟩
  · rcases HL.out with h0 | h0
    · intro j hj
      omega
    have e:=hch.block g h0 (fun k=>(hk g k).2 rfl);intro j hj;rw [cell_h e,cell_h e];exact HM.out j hj
  · exact strs_own (by rw [hT.1];exact hrT)
  exact recs_own (by rw [hP.1];exact hrP)
 clear HC hch hT hP hrT hrP a3 a4 a5;go_wp2;go_ret;exact HX.out
theorem c12 (cd:Int) (m:MS) (vs:List Value) (w:World) (hS:Sml m) (h:Mkd w cd m vs):
 Calls prog 12 #[.agg vs.toArray,.int .i64 1] w fun e w'=>e=.returned (.int .i64 (mkM m))/\Below w.heap.size w w':=by
 obtain ⟨fa,fc,ta,tc,ra,rc,g,rfl,h1,h2,h3,tt,P,hT,hP,h4,h5⟩:=h;have H1:=hI_ h1;have H2:=hI_ h2;have H3:=hI_ h3;have H4:=hI_ h4;have H5:=hI_ h5;have H6:=hI_ hT;have H7:=hI_ hP;clear h1 h2 h3 h4 h5 hT hP;go_enter func12,ntmps12
 go_upto_region 1 with fail
 obtain ⟨V,hV⟩:∃ V:World,V=w.alloc (.cells #[.int .i64 cd,.int .i64 m.ep,.slice fa m.fs.length fc,.int .i64 m.s.wd,.slice ta m.s.ts.length tc,.slice ra m.s.rs.length rc] 31):=⟨_,rfl⟩;rw [<- hV];have bV:Below w.heap.size w V:=by rw [hV];exact bA_
 have CA:Hid (Cl V w.heap.size 31 [.int .i64 cd,.int .i64 m.ep,.slice fa m.fs.length fc,.int .i64 m.s.wd,.slice ta m.s.ts.length tc,.slice ra m.s.rs.length rc]):=by show Cl _ _ _ _;rw [hV];exact cl_new w [_,_,_,_,_,_] 31
 clear hV;have a2:=CA.out.cell 2;dsimp only [List.getElem?_cons_zero,List.getElem?_cons_succ] at a2
 go_wp2_with fail
 refine (T.c26 fa g m.fs.length fc V H1.out (by have:=hS.fl;omega) (H2.out.imp id (fun k=>Nat.lt_of_lt_of_le k bV.size)) (by
  rcases H2.out with h0 | h0
  · intro j hj
    omega
  exact T.marks_below H3.out h0 bV)).mono ?_
 rintro e V1 ⟨rfl,hb1⟩;clear a2;have bV1:=bT_ bV hb1;have C1:=hI_ (CA.out.below hb1 CA.out.lt);have HC:=hI_ (c27 (1+2*(m.fs.length:Int)) m.s tt P ta ra tc rc V1 om_ (by have:=hS.fl;have:=hS.tl;have:=hS.rl;have:=hS.gz;omega) (by have:=hS.tl;omega) (by have:=hS.rl;omega) H6.out H7.out (strs_below H4.out bV1) (recs_below H5.out bV1));have hp1:¬ 1+2*(m.fs.length:Int)<0:=om_;have hp2:¬ mkN (1+2*(m.fs.length:Int)) m.s.ts m.s.rs<0:=by have:=mkM_pos m;unfold mkM at this;omega
 have HMM:=hI_ (show mkM m=mkN (1+2*(m.fs.length:Int)) m.s.ts m.s.rs from rfl);generalize mkN (1+2*(m.fs.length:Int)) m.s.ts m.s.rs=M at*;clear hb1 CA;have a3:=C1.out.cell 3;have a4:=C1.out.cell 4;have a5:=C1.out.cell 5;dsimp only [List.getElem?_cons_zero,List.getElem?_cons_succ] at a3 a4 a5
 go_wp2_with fail
 refine HC.out.mono ?_;rintro e V2 ⟨rfl,hb2⟩;have B2:=hI_ (bT_ bV1 hb2);clear HC hb2 a3 a4 a5;go_wp2;go_ret;exact ⟨by rw [HMM.out];rfl,B2.out⟩
theorem Rd.six {w:World} {cd:Int} {m:MS} {vs:List Value} (h:Rd w cd m vs):∃ fa fc ta tc ra rc,vs=[.int .i64 cd,.int .i64 m.ep,.slice fa m.fs.length fc,.int .i64 m.s.wd,.slice ta m.s.ts.length tc,.slice ra m.s.rs.length rc]/\∀ v∈([.int .i64 cd,.int .i64 m.ep,.slice fa m.fs.length fc,.int .i64 m.s.wd,.slice ta m.s.ts.length tc,.slice ra m.s.rs.length rc]:List Value),v.oneCell'=true:=by
 obtain ⟨fa,fc,ta,tc,ra,rc,rfl,_⟩:=h;exact ⟨_,_,_,_,_,_,rfl,one6 rfl rfl rfl rfl rfl rfl⟩
theorem wl_ldC {P:Program} {ops:Array Oper} {Q:Exit->Act->World->Prop} {rest:List Oper} {o:Oper} {a:Act} {w:World} (hw:Region.wanted o (yielded ops a.tmps)=true) (ty:TypeId) (x:Operand) (ho:o.op=.load ty x) {B:Nat} {t:TypeId} {cs:List Value} {d:TypeDesc} (hx:a.eval x=.pointer (some ⟨B,0,none⟩)) (hB:Cl w B t cs) (hu:P.underlying ty=some d) (hd:(match d with | .struct _ | .array _ _=>true | _=>false)=true) (hi:(P.info? ty).map (·.size)=some cs.length) (h:wpList P ops Q rest (a.put o.dst (.agg cs.toArray)) w):wpList P ops Q (o::rest) a w:=by
 refine wpList_step fun K hK=>?_;rw [if_pos hw];unfold Oper.wp;rw [ex_ldN ty x ho hx (fun i v hv=>by rw [Nat.zero_add,hB.cell];exact hv) hu hd hi];exact hK _ _ h
theorem c3 (a:Option Addr) (cap:Nat) (es:List ByteArray) (W:Int) (w:World) (hl:es.length<=9223372036854775807) (hs:∀ i,(es.getD i ByteArray.empty).size<=9223372036854775807) (hat:StrsAt w a es) (hmx:MaxAt w):
 Calls prog 3 #[.slice a es.length cap,.int .i64 W] w fun e w'=>e=.returned (.bool true)/\Below w.heap.size w w':=by
 have HAT:=hI_ hat;have HMX:=hI_ hmx;have h4:=c4 a cap es w hs hl hat;clear hat hmx hs;go_enter func3,ntmps3
 go_wp2_with fail
 refine h4.mono ?_;rintro e w1 ⟨⟨r,rfl,hr⟩,hw1⟩;obtain rfl:=hw1.symm;clear h4;by_cases hr0:r<0
 · clear hr
   go_wp2;go_ret;exact ⟨rfl,Below.refl _ _⟩
 obtain ⟨hl1,hs1,_⟩:=hr om_;have HS1:=hI_ hs1;clear hr hs1
 go_upto_region 5 with fail
 go_wp2_with fail
 refine (c6 a cap es w hl1 HAT.out).mono ?_;rintro e w1 ⟨⟨rfl,hx⟩,hb1⟩;have HC:=hI_ (c5r (some ⟨w.heap.size,0,none⟩) es.length es W w1 hl1 HS1.out hx);clear hx
 go_wp2_with fail
 refine HC.out.mono ?_;rintro e w2 ⟨⟨cd,m,vs,rfl,ho,hrd⟩,hb2⟩;obtain ⟨p0,p1,p2,p3,p4,p5,rfl,h6⟩:=hrd.six;have K2:=bT_ hb1 hb2;have HO:=hI_ ho;have HS:=hI_ ho.1;have R2:=hI_ hrd;have ON:=hI_ h6;clear HC ho hrd hb1 hb2 h6
 go_upto_region 6 with (refine wl_stN rfl 31 _ _ rfl (B:=w2.heap.size) (j:=0) rfl (vs:=[.int .i64 cd,.int .i64 m.ep,.slice p0 m.fs.length p1,.int .i64 m.s.wd,.slice p2 m.s.ts.length p3,.slice p4 m.s.rs.length p5]) rfl (cl_new w2 [.int .i64 0,.int .i64 0,.slice none 0 0,.int .i64 0,.slice none 0 0,.slice none 0 0] 31) lr_ ON.out kr_ ?_;intro w3 cz oz)
 have C6:Hid (Cl w3 w2.heap.size 31 [.int .i64 cd,.int .i64 m.ep,.slice p0 m.fs.length p1,.int .i64 m.s.wd,.slice p2 m.s.ts.length p3,.slice p4 m.s.rs.length p5]):=cz;have B6:Below w2.heap.size w2 w3:=bA_.trans (oz.below lr_);clear cz oz;have K3:Below w.heap.size w w3:=bT_ K2 B6;have R3:=hI_ (R2.out.below B6);clear R2 ON
 go_wp2_with fail
 refine (c6o a cap es w3 hl1 (strs_below HAT.out K3)).mono ?_;rintro e w4 ⟨⟨rfl,hx⟩,hb4⟩;have X4:=hI_ hx;have C4:=hI_ (C6.out.below hb4 C6.out.lt);have HK:Hid (∀ u,Below w3.heap.size w3 u->Below w.heap.size w u):=fun u hu=>bT_ K3 hu;have HR:Hid (∀ u,Below w3.heap.size w3 u->Rd u cd m [.int .i64 cd,.int .i64 m.ep,.slice p0 m.fs.length p1,.int .i64 m.s.wd,.slice p2 m.s.ts.length p3,.slice p4 m.s.rs.length p5]):=fun u hu=>R3.out.below hu;have L4:w3.heap.size<w4.heap.size:=own_lt hx rfl;have L6:w2.heap.size<w3.heap.size:=C6.out.lt;have N4:=hb4;clear hx hb4 C6 R3 B6 K3 K2;generalize w3.heap.size=X at*;generalize w2.heap.size=A6 at*;have HC:=hI_ (c7r (some ⟨X,0,none⟩) es.length es W w4 hl1 HS1.out (strs_own X4.out) (max_below HMX.out (HK.out _ N4)))
 go_upto_region 7 with fail
 go_wp2_with fail
 refine HC.out.mono ?_;rintro e w5 ⟨⟨cd',m',vs,rfl,ho,hme⟩,hb5⟩;have ec:=(out_one HO.out ho).1.symm;have em:=(out_one HO.out ho).2.symm;subst ec em;obtain ⟨q0,q1,q2,q3,q4,q5,rfl,h6⟩:=hme.rd.six;have N5:=N4.trans (hb5.mono (Nat.le_of_lt L4));have X5:=hI_ (own_below X4.out hb5);have C5:=hI_ (C4.out.below hb5 C4.out.lt);have M5:=hI_ hme;have ON:=hI_ h6;have L5:w4.heap.size<=w5.heap.size:=hb5.size;clear HC ho hme hb5 h6 X4 C4 N4
 go_upto_region 8 with (refine wl_stN rfl 31 _ _ rfl (B:=w5.heap.size) (j:=0) rfl (vs:=[.int .i64 cd,.int .i64 m.ep,.slice q0 m.fs.length q1,.int .i64 m.s.wd,.slice q2 m.s.ts.length q3,.slice q4 m.s.rs.length q5]) rfl (cl_new w5 [.int .i64 0,.int .i64 0,.slice none 0 0,.int .i64 0,.slice none 0 0,.slice none 0 0] 31) lr_ ON.out kr_ ?_;intro w6 cz oz)
 have C8:Hid (Cl w6 w5.heap.size 31 [.int .i64 cd,.int .i64 m.ep,.slice q0 m.fs.length q1,.int .i64 m.s.wd,.slice q2 m.s.ts.length q3,.slice q4 m.s.rs.length q5]):=cz;have B8:Below w5.heap.size w5 w6:=bA_.trans (oz.below lr_);clear cz oz;have N6:=N5.trans (B8.mono om_);have X6:=hI_ (own_below X5.out B8);have C6:=hI_ (C5.out.below B8 C5.out.lt);have M6:=hI_ (M5.out.keep B8.size (fun q _ hq=>B8.block q hq));have L8:w5.heap.size<w6.heap.size:=C8.out.lt;clear N5 X5 C5 M5 ON B8;generalize w4.heap.size=G at*;generalize w5.heap.size=A8 at*;have HC:=hI_ (c8 cd m [.int .i64 cd,.int .i64 m.ep,.slice q0 m.fs.length q1,.int .i64 m.s.wd,.slice q2 m.s.ts.length q3,.slice q4 m.s.rs.length q5] [.int .i64 cd,.int .i64 m.ep,.slice p0 m.fs.length p1,.int .i64 m.s.wd,.slice p2 m.s.ts.length p3,.slice p4 m.s.rs.length p5] w6 HS.out M6.out.rd (HR.out _ N6))
 go_wp2_with (first | (refine wl_ldC rfl 31 _ rfl (B:=A8) rfl C8.out underlying31 rfl kr_ ?_) | (refine wl_ldC rfl 31 _ rfl (B:=A6) rfl C6.out underlying31 rfl kr_ ?_))
 refine HC.out.mono ?_;rintro e w7 ⟨rfl,hb7⟩;have N7:=N6.trans (hb7.mono om_);have X7:=hI_ (own_below X6.out hb7);have D7:=hI_ (C6.out.below hb7 C6.out.lt);have E7:=hI_ (C8.out.below hb7 C8.out.lt);have M7:=hI_ (M6.out.keep hb7.size (fun q _ hq=>hb7.block q hq));have L7:=hb7.size;clear HC hb7 N6 X6 C6 C8 M6;have HC:=hI_ (c6 a cap es w7 hl1 (strs_below HAT.out (HK.out _ N7)))
 go_upto_region 10 with fail
 go_wp2_with fail
 refine HC.out.mono ?_;rintro e w8 ⟨⟨rfl,hx⟩,hb8⟩;have HD:=hI_ (c9 (some ⟨X,0,none⟩) (some ⟨w7.heap.size,0,none⟩) es.length es.length es w8 hl1 (strs_own (own_below X7.out hb8)) hx);clear HC hx
 go_wp2_with fail
 refine HD.out.mono ?_;rintro e w9 ⟨rfl,hb9⟩;have b9:=bT_ hb8 hb9;have N9:=N7.trans (b9.mono om_);have X9:=hI_ (own_below X7.out b9);have D9:=hI_ (D7.out.below b9 D7.out.lt);have E9:=hI_ (E7.out.below b9 E7.out.lt);have M9:=hI_ (M7.out.keep b9.size (fun q _ hq=>b9.block q hq));have L9:=b9.size;clear HD hb8 hb9 b9 N7 X7 D7 E7 M7;have HC:=hI_ (c10 1 (some ⟨X,0,none⟩) es.length X es w9 dc_ dc_ hl1 X9.out);have hn1:¬ 1+(es.length:Int)<0:=om_
 go_upto_region 13 with fail
 go_wp2_with fail
 refine HC.out.mono ?_;rintro e w10 ⟨rfl,_,hg⟩;have hk:∀ q,q≠X->q<w9.heap.size->w10.heap[q]?=w9.heap[q]?:=fun q hq hlt=>hg.block q hlt (fun e=>hq (Option.some.inj e));have D10:Hid (Cl w10 A6 31 [.int .i64 cd,.int .i64 m.ep,.slice p0 m.fs.length p1,.int .i64 m.s.wd,.slice p2 m.s.ts.length p3,.slice p4 m.s.rs.length p5]):=(hk A6 om_ D9.out.lt).trans D9.out;have E10:Hid (Cl w10 A8 31 [.int .i64 cd,.int .i64 m.ep,.slice q0 m.fs.length q1,.int .i64 m.s.wd,.slice q2 m.s.ts.length q3,.slice q4 m.s.rs.length q5]):=(hk A8 om_ E9.out.lt).trans E9.out;have M10:=hI_ (M9.out.keep hg.size (fun q hb hq=>hk q om_ hq));have N10:Below X w3 w10:=N9.trans ⟨hg.os,hg.tape,hg.output,hg.size,fun q hq=>hk q om_ om_⟩;have L10:=hg.size;clear HC hg hk N9 X9 D9 E9 M9;have HC:=hI_ (c8 cd m [.int .i64 cd,.int .i64 m.ep,.slice q0 m.fs.length q1,.int .i64 m.s.wd,.slice q2 m.s.ts.length q3,.slice q4 m.s.rs.length q5] [.int .i64 cd,.int .i64 m.ep,.slice p0 m.fs.length p1,.int .i64 m.s.wd,.slice p2 m.s.ts.length p3,.slice p4 m.s.rs.length p5] w10 HS.out M10.out.rd (HR.out _ N10))
 go_upto_region 14 with fail
 go_wp2_with (first | (refine wl_ldC rfl 31 _ rfl (B:=A8) rfl E10.out underlying31 rfl kr_ ?_) | (refine wl_ldC rfl 31 _ rfl (B:=A6) rfl D10.out underlying31 rfl kr_ ?_))
 refine HC.out.mono ?_;rintro e w11 ⟨rfl,hb11⟩;have N11:=N10.trans (hb11.mono om_);have D11:=hI_ (D10.out.below hb11 D10.out.lt);have E11:=hI_ (E10.out.below hb11 E10.out.lt);have M11:=hI_ (M10.out.keep hb11.size (fun q _ hq=>hb11.block q hq));have L11:=hb11.size;clear HC hb11 N10 D10 E10 M10;have HC:=hI_ (c11 G cd m [.int .i64 cd,.int .i64 m.ep,.slice q0 m.fs.length q1,.int .i64 m.s.wd,.slice q2 m.s.ts.length q3,.slice q4 m.s.rs.length q5] w11 om_ HS.out M11.out);clear hn1;have hp:¬ mkM m<0:=by have:=mkM_pos m;omega
 obtain ⟨MM,hMM⟩:∃ MM,mkM m=MM:=⟨_,rfl⟩;have HMM:=hI_ hMM;rw [hMM] at HC hp;clear hMM
 go_upto_region 17 with fail
 go_wp2_with (refine wl_ldC rfl 31 _ rfl (B:=A8) rfl E11.out underlying31 rfl kr_ ?_)
 refine HC.out.mono ?_;rintro e w12 ⟨⟨rfl,hmk,h31⟩,hb12⟩;have N12:=N11.trans (hb12.mono om_);have D12:=hI_ (D11.out.below hb12 om_);have E12:Hid (Cl w12 A8 31 [.int .i64 cd,.int .i64 m.ep,.slice q0 m.fs.length q1,.int .i64 m.s.wd,.slice q2 m.s.ts.length q3,.slice q4 m.s.rs.length q5]):=(h31 A8 (cl_ofT E11.out)).trans E11.out;have M12:=hI_ hmk;have L12:=hb12.size;clear HC hmk h31 hb12 N11 D11 E11 M11;have HC:=hI_ (c12 cd m [.int .i64 cd,.int .i64 m.ep,.slice q0 m.fs.length q1,.int .i64 m.s.wd,.slice q2 m.s.ts.length q3,.slice q4 m.s.rs.length q5] w12 HS.out M12.out);rw [HMM.out] at HC
 go_upto_region 19 with fail
 go_wp2_with (refine wl_ldC rfl 31 _ rfl (B:=A8) rfl E12.out underlying31 rfl kr_ ?_)
 refine HC.out.mono ?_;rintro e w13 ⟨rfl,hb13⟩;have N13:=N12.trans (hb13.mono om_);have D13:=hI_ (D12.out.below hb13 D12.out.lt);have E13:=hI_ (E12.out.below hb13 E12.out.lt);have M13:=hI_ (M12.out.below hb13);have L13:=hb13.size;clear HC hb13 N12 D12 E12 M12;have HC:=hI_ (c6 a cap es w13 hl1 (strs_below HAT.out (HK.out _ N13)))
 go_upto_region 24 with fail
 go_wp2_with fail
 refine HC.out.mono ?_;rintro e w14 ⟨⟨rfl,hx⟩,hb14⟩;have N14:=N13.trans (hb14.mono om_);have D14:=hI_ (D13.out.below hb14 D13.out.lt);have E14:=hI_ (E13.out.below hb14 E13.out.lt);have M14:=hI_ (M13.out.below hb14);have L14:=hb14.size;have HD:=hI_ (c7r (some ⟨w13.heap.size,0,none⟩) es.length es W w14 hl1 HS1.out hx (max_below HMX.out (HK.out _ N14)));clear HC hx hb14 N13 D13 E13 M13
 go_wp2_with fail
 refine HD.out.mono ?_;rintro e w15 ⟨⟨cd',m',vs,rfl,ho,hme⟩,hb15⟩;have ec:=(out_one HO.out ho).1.symm;have em:=(out_one HO.out ho).2.symm;subst ec em;have hrd:=hme.rd;obtain ⟨r0,r1,r2,r3,r4,r5,rfl,h6⟩:=hrd.six;have N15:=N14.trans (hb15.mono om_);have D15:=hI_ (D14.out.below hb15 D14.out.lt);have E15:=hI_ (E14.out.below hb15 E14.out.lt);have M15:=hI_ (M14.out.below hb15);have L15:=hb15.size;have Y15:=hI_ hrd;have ON:=hI_ h6;clear HD ho hme hb15 h6 hrd N14 D14 E14 M14
 go_upto_region 25 with (refine wl_stN rfl 31 _ _ rfl (B:=w15.heap.size) (j:=0) rfl (vs:=[.int .i64 cd,.int .i64 m.ep,.slice r0 m.fs.length r1,.int .i64 m.s.wd,.slice r2 m.s.ts.length r3,.slice r4 m.s.rs.length r5]) rfl (cl_new w15 [.int .i64 0,.int .i64 0,.slice none 0 0,.int .i64 0,.slice none 0 0,.slice none 0 0] 31) lr_ ON.out kr_ ?_;intro w16 cz oz)
 have C12:Hid (Cl w16 w15.heap.size 31 [.int .i64 cd,.int .i64 m.ep,.slice r0 m.fs.length r1,.int .i64 m.s.wd,.slice r2 m.s.ts.length r3,.slice r4 m.s.rs.length r5]):=cz;have B12:Below w15.heap.size w15 w16:=bA_.trans (oz.below lr_);clear cz oz;have N16:=N15.trans (B12.mono om_);have D16:=hI_ (D15.out.below B12 D15.out.lt);have E16:=hI_ (E15.out.below B12 E15.out.lt);have M16:=hI_ (M15.out.below B12);have Y16:=hI_ (Y15.out.below B12);have L16:=B12.size;clear N15 D15 E15 M15 Y15 ON B12;have HC:=hI_ (c8 cd m [.int .i64 cd,.int .i64 m.ep,.slice r0 m.fs.length r1,.int .i64 m.s.wd,.slice r2 m.s.ts.length r3,.slice r4 m.s.rs.length r5] [.int .i64 cd,.int .i64 m.ep,.slice p0 m.fs.length p1,.int .i64 m.s.wd,.slice p2 m.s.ts.length p3,.slice p4 m.s.rs.length p5] w16 HS.out Y16.out (HR.out _ N16));generalize w15.heap.size=A12 at*
 go_wp2_with (first | (refine wl_ldC rfl 31 _ rfl (B:=A12) rfl C12.out underlying31 rfl kr_ ?_) | (refine wl_ldC rfl 31 _ rfl (B:=A6) rfl D16.out underlying31 rfl kr_ ?_))
 refine HC.out.mono ?_;rintro e w17 ⟨rfl,hb17⟩;have N17:=N16.trans (hb17.mono om_);have E17:=hI_ (E16.out.below hb17 E16.out.lt);have M17:=hI_ (M16.out.below hb17);have L17:=hb17.size;clear HC hb17 N16 D16 E16 M16 Y16 C12;have HC:=hI_ (c12 cd m [.int .i64 cd,.int .i64 m.ep,.slice q0 m.fs.length q1,.int .i64 m.s.wd,.slice q2 m.s.ts.length q3,.slice q4 m.s.rs.length q5] w17 HS.out M17.out);rw [HMM.out] at HC
 go_upto_region 28 with fail
 go_wp2_with (refine wl_ldC rfl 31 _ rfl (B:=A8) rfl E17.out underlying31 rfl kr_ ?_)
 refine HC.out.mono ?_;rintro e w18 ⟨rfl,hb18⟩;have K18:=hI_ (HK.out _ (N17.trans (hb18.mono om_)));clear HC hb18 N17 E17 M17;go_wp2;go_ret;exact ⟨rfl,K18.out⟩
end Go.Proofs.YtlckdgjfniglfaaGreatDoor
