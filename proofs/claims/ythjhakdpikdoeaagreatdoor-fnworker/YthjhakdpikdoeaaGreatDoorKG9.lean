import Derived.Test.YthjhakdpikdoeaaGreatDoorWM
import Derived.Test.YthjhakdpikdoeaaGreatDoorZ48
set_option linter.unusedVariables false
set_option maxHeartbeats 8000000
set_option maxRecDepth 100000
namespace Go.Proofs.YthjhakdpikdoeaaGreatDoor
open Proofs.Tryz
open Go.RowKit
open Classical in
open Classical in
open Classical in
open Classical in
theorem six_cells {u:World} {B:Nat} (h:u.heap[B]?=some (.cells z6 29 (0,0))):u.cell? ⟨B,0,none⟩=some (.bool false)/\u.cell? ⟨B,1,none⟩=some (.int .i64 0)/\u.cell? ⟨B,2,none⟩=some (.string ⟨#[]⟩)/\u.cell? ⟨B,3,none⟩=some (.bool false)/\u.cell? ⟨B,4,none⟩=some (.string ⟨#[]⟩)/\u.cell? ⟨B,5,none⟩=some (.int .i64 0)/\∀ j,u.frozen? ⟨B,j,none⟩=false:=
 ⟨Lib.cell_of_heap h 0,Lib.cell_of_heap h 1,Lib.cell_of_heap h 2,Lib.cell_of_heap h 3,Lib.cell_of_heap h 4,Lib.cell_of_heap h 5,fun j=>Lib.frozen_of_heap h j⟩
theorem c13n (m:M3) (a:Option Addr) (cap:Nat) (ls:List M.L4) (w:World) (hm:m.le 1048576) (hl:ls.length<=1048576) (hno:okM m=false\/15<ls.length):
 Calls prog 13 #[.agg #[.string m.nm,.string m.tl,.string m.ar],.slice a ls.length cap] w fun e w'=>e=.returned zeroT.v/\Below w.heap.size w w':=by
 have hml:m.le 1048700:=⟨by have:=hm.1;omega,by have:=hm.2.1;omega,by have:=hm.2.2;omega⟩;have fin:∀ u:World,Hid (Below (w.heap.size+2) (WG m w) u)->Below w.heap.size w ((((((u.setCell ⟨w.heap.size+1,0,none⟩ (.bool false)).setCell ⟨w.heap.size+1,1,none⟩ (.int .i64 0)).setCell ⟨w.heap.size+1,2,none⟩ (.string ⟨#[]⟩)).setCell ⟨w.heap.size+1,3,none⟩ (.bool false)).setCell ⟨w.heap.size+1,4,none⟩ (.string ⟨#[]⟩)).setCell ⟨w.heap.size+1,5,none⟩ (.int .i64 0)):=fun u hb=>
  ((WG_below m w).trans (hb.out.mono om_)).trans (set6_below om_ _ _ _ _ _ _)
 have hlen:(0:Int)<=ls.length:=om_;have HW:Hid (WG m w=(w.alloc (.cells #[.string m.nm,.string m.tl,.string m.ar] 24)).alloc (.cells #[.bool false,.int .i64 0,.string ⟨#[]⟩,.bool false,.string ⟨#[]⟩,.int .i64 0] 29)):=rfl;rcases hk:okM m with _ | _
 · go_enter func13,ntmps13
   go_wp2_with fail
   rw [<- HW.out];refine (G.c35v hk _ hml).mono ?_;rintro e w1 ⟨rfl,hb1⟩;have HB:Hid (Below (w.heap.size+2) (WG m w) w1):=hb1.mono (by rw [WG_size];omega);obtain ⟨q0,q1,q2,q3,q4,q5,hfz⟩:=six_cells (WG_z HB.out);clear hb1;go_wp2;obtain ⟨s0,s1,s2,s3,s4,s5⟩:=set6 (WG_z HB.out) (.bool false) (.int .i64 0) (.string ⟨#[]⟩) (.bool false) (.string ⟨#[]⟩) (.int .i64 0);exact bodyPost_ret (v:=zeroT.v) (by simp [results,Tryz.results13,go_sem,s0,s1,s2,s3,s4,s5,zeroT,TN.v]) rfl ⟨rfl,fin _ HB⟩
 have h15:15<(ls.length:Int):=by
  rcases hno with h | h
  · rw [hk] at h;cases h
  omega
 go_enter func13,ntmps13
 go_wp2_with fail
 rw [<- HW.out];refine (G.c35v hk _ hml).mono ?_;rintro e w1 ⟨rfl,hb1⟩;have HB:Hid (Below (w.heap.size+2) (WG m w) w1):=hb1.mono (by rw [WG_size];omega);obtain ⟨q0,q1,q2,q3,q4,q5,hfz⟩:=six_cells (WG_z HB.out);clear hb1;go_wp2;obtain ⟨s0,s1,s2,s3,s4,s5⟩:=set6 (WG_z HB.out) (.bool false) (.int .i64 0) (.string ⟨#[]⟩) (.bool false) (.string ⟨#[]⟩) (.int .i64 0);exact bodyPost_ret (v:=zeroT.v) (by simp [results,Tryz.results13,go_sem,s0,s1,s2,s3,s4,s5,zeroT,TN.v]) rfl ⟨rfl,fin _ HB⟩
theorem pick0 (w:World) (q p:Nat) (hp:p<=1000000) (hr:RdAt w q p):
 Calls prog 18 #[.pointer (some ⟨q,0,none⟩),.int .i64 0] w fun e w'=>e=.returned (.int .i64 0)/\RdAt w' q (p+1)/\OnlyAt q w w':=by
 have h:Calls prog 18 #[.pointer (some ⟨q,0,none⟩),.int .i64 0] w fun e w'=>e=.returned (.int .i64 0)/\∃ nq,w'=(w.setCell ⟨q,1,none⟩ (.int .i64 (p+1))).drewN nq:=by
  obtain ⟨a,L,cap,c0,c1,fz,_⟩:=hr;go_enter func18,ntmps18;go_wp2;go_ret;exact ⟨rfl,0,rfl⟩
 refine h.mono ?_;rintro e w' ⟨h1,nq,rfl⟩;exact ⟨h1,hr.step nq,onlyAt_step _ _ _ _ _⟩
theorem pickU (w:World) (q P n:Nat) (hn2:n<=1000000) (hp:P<=1000000) (hr:RdTo w q P):
 Calls prog 18 #[.pointer (some ⟨q,0,none⟩),.int .i64 n] w fun e w'=>(∃ r:Nat,e=.returned (.int .i64 r)/\(n=0\/r<n)/\(n=0->r=0))/\RdTo w' q (P+1)/\OnlyAt q w w':=by
 rcases Nat.eq_zero_or_pos n with rfl | h0
 · obtain ⟨p,h1,h2⟩:=hr
   refine (pick0 w q p om_ h2).mono ?_;rintro e w' ⟨rfl,hb,hc⟩;exact ⟨⟨0,rfl,.inl rfl,fun _=>rfl⟩,⟨p+1,om_,hb⟩,hc⟩
 refine (pickT w q P n om_ om_ hp hr).mono ?_;rintro e w' ⟨⟨r,rfl,h1,h2⟩,hb,hc⟩;obtain ⟨r,rfl⟩:=Int.eq_ofNat_of_zero_le h1;exact ⟨⟨r,rfl,.inr om_,fun e=>om_⟩,hb,hc⟩
def Is82 (q P:Nat) (w:World) (e:Ending) (w':World):Prop:=(∃ (c:Int) (x:ByteArray),e=.returned (.agg #[.int .i64 c,.string x])/\x.size<=20)/\RdTo w' q P/\But q w w'
theorem fin82 {q P:Nat} {w u:World} {a b:Value} {c:Int} {x:ByteArray} (hC:Cl u w.heap.size 27 [a,b]) (hr:RdTo u q P) (hu:But q w u) (hq:q<w.heap.size) (hx:x.size<=20) (tm:Array Value) (h2:tm[2]?=some (.pointer (some ⟨w.heap.size,0,none⟩))):bodyPost prog f82 (Is82 q P w) .ret ⟨tm,[]⟩ ((u.setCell ⟨w.heap.size,0,none⟩ (.int .i64 c)).setCell ⟨w.heap.size,1,none⟩ (.string x)):=by
 have H:=(hC.set 0 (.int .i64 c)).set 1 (.string x);have e0:=H.cell 0;have e1:=H.cell 1;exact bodyPost_ret (v:=.agg #[.int .i64 c,.string x]) (by simp [results,Tryz.results82,go_sem,e0,e1,h2]) rfl ⟨⟨c,x,rfl,hx⟩,rd_set1 (rd_set1 hr hq _ _) hq _ _,but_set1 (but_set1 hu lr_ _ _) lr_ _ _⟩
theorem c82 (q P:Nat) (w:World) (hp:P<=90000) (hr:RdTo w q P):
 Calls prog 82 #[.pointer (some ⟨q,0,none⟩)] w (Is82 q (P+3) w):=by
 have HR:=hdI hr;have hq:=hr.lt;clear hr;go_enter func82,ntmps82
 go_wp2_with fail
 obtain ⟨y0,hy⟩:∃ y:World,y=w.alloc (.cells #[.int .i64 0,.string ⟨#[]⟩] 27):=⟨_,rfl⟩;rw [<- hy];have b0:Below w.heap.size w y0:=by rw [hy];exact bA
 have C0:Hid (Cl y0 w.heap.size 27 [.int .i64 0,.string ⟨#[]⟩]):=by show Cl _ _ _ _;rw [hy];exact cl_new w _ 27
 clear hy;refine (pickT y0 q P 10 om_ om_ om_ (HR.out.later b0)).mono ?_;rintro e y1 ⟨⟨r,rfl,h0,h1⟩,H1,ho⟩;have H1:=hdI H1;have B1:Hid (But q w y1):=(But.of_below b0).trans ho.but;have C1:Hid (Cl y1 w.heap.size 27 [.int .i64 0,.string ⟨#[]⟩]):=(ho.block _ om_).trans C0.out;clear ho C0 b0;have q0:=C1.out.cell 0;have q1:=C1.out.cell 1;have g0:=C1.out.opn 0;have g1:=C1.out.opn 1;obtain rfl | rfl | rfl | rfl | rfl | rfl | h6:r=0\/r=1\/r=2\/r=3\/r=4\/r=5\/6<=r:=om_
 · go_wp2_with fail
   refine (c42 q (P+1) y1 om_ H1.out).mono ?_;rintro e y2 ⟨⟨x,rfl,hx⟩,H2,ho⟩;have C2:Cl y2 w.heap.size 27 [.int .i64 0,.string ⟨#[]⟩]:=(ho.block _ C1.out.lt om_).trans C1.out;have q0:=C2.cell 0;have q1:=C2.cell 1;have g0:=C2.opn 0;have g1:=C2.opn 1;have H2:=hdI H2;have B2:=hdI (B1.out.trans ho);have HC2:=hdI C2;clear ho C2;go_wp2;exact fin82 HC2.out H2.out B2.out hq hx _ rfl
 · go_wp2_with fail
   refine (pickT y1 q (P+1) 5 om_ om_ om_ H1.out).mono ?_;rintro e y2 ⟨⟨r,rfl,h20,h21⟩,H2,ho⟩;obtain ⟨r,rfl⟩:=Int.eq_ofNat_of_zero_le h20;have C2:Cl y2 w.heap.size 27 [.int .i64 0,.string ⟨#[]⟩]:=(ho.block _ om_).trans C1.out;have HC2:=hdI C2;have H2:=hdI H2;have B2:=hdI (B1.out.trans ho.but);clear ho C2;have hr:r<10:=om_
   go_wp2_with fail
   refine (c46_one r y2 hr).mono ?_;rintro e y3 ⟨rfl,hb3⟩;have hx:(ofL (Lib.decDigits r)).size<=20:=by rw [ofL_size,dec_small r hr];simp
   have C3:=HC2.out.below hb3 HC2.out.lt;have q0:=C3.cell 0;have q1:=C3.cell 1;have g0:=C3.opn 0;have g1:=C3.opn 1;have H3:=hdI (H2.out.later hb3);have B3:=hdI (B2.out.later hb3);have HC3:=hdI C3;clear hb3 C3;generalize ofL (Lib.decDigits r)=x at*;go_wp2;exact fin82 HC3.out (H3.out.mono om_) B3.out hq hx _ rfl
 rotate_right
 · have k0:(r==0)=false:=so_
   have k1:(r==1)=false:=so_;have k2:(r==2)=false:=so_;have k3:(r==3)=false:=so_;have k4:(r==4)=false:=so_;have k5:(r==5)=false:=so_
   go_wp2_with fail
   refine (c42 q (P+1) y1 om_ H1.out).mono ?_;rintro e y2 ⟨⟨x,rfl,hx⟩,H2,ho⟩;have C2:Cl y2 w.heap.size 27 [.int .i64 0,.string ⟨#[]⟩]:=(ho.block _ C1.out.lt om_).trans C1.out;have q0:=C2.cell 0;have q1:=C2.cell 1;have g0:=C2.opn 0;have g1:=C2.opn 1;have H2:=hdI H2;have B2:=hdI (B1.out.trans ho);have HC2:=hdI C2;clear ho C2;go_wp2;exact fin82 HC2.out H2.out B2.out hq hx _ rfl
 all_goals
  go_wp2;exact fin82 C1.out (H1.out.mono om_) B1.out hq dc_ _ rfl
open G (IsPT)
open G.T (F2 f2z treeOk FilesAt)
def b1:Value->Nat | .bool true=>1 | _=>0
theorem isPT_ex (fs:List F2):∃ ms,IsPT fs ms:=by
 by_cases ht:treeOk fs;rotate_left
 · exact ⟨[],.inl ⟨ht,rfl⟩⟩
 by_cases hf:G.Free fs G.planA
 · exact ⟨[],.inr (.inl ⟨ht,hf,rfl⟩)⟩
 obtain ⟨i,hi,hn⟩:∃ i,i<fs.length/\(fs.getD i f2z).nm=G.planA:=Classical.byContradiction fun h=>hf fun i hi e=>h ⟨i,hi,e⟩;obtain ⟨ks,ok,hp⟩:∃ ks ok,G.IsPlan (fs.getD i f2z).tx.data.toList ks ok:=by
  by_cases h:∃ js,G.planOk js=true/\js.flatMap G.makeL=(fs.getD i f2z).tx.data.toList/\(fs.getD i f2z).tx.data.toList.length<=300
  · obtain ⟨js,h1,h2,h3⟩:=h
    exact ⟨js,true,fun _=>⟨h1,h2,h3⟩,fun c=>by cases c⟩
  exact ⟨[],false,(fun c=>by cases c),fun _=>⟨rfl,fun js h1 h2=>Nat.lt_of_not_le fun h3=>h ⟨js,h1,h2,h3⟩⟩⟩
 by_cases h:ok=true/\G.FreeAll fs ks
 · exact ⟨ks,.inr (.inr ⟨ht,i,hi,hn,ks,ok,hp,.inl ⟨h.1,h.2,rfl⟩⟩)⟩
 exact ⟨[],.inr (.inr ⟨ht,i,hi,hn,ks,ok,hp,.inr ⟨h,rfl⟩⟩)⟩
theorem c75n (a:Option Addr) (cap:Nat) (fs:List F2) (w:World) (hl:fs.length<=1048576) (hs:∀ i,(fs.getD i f2z).le 1048576) (hat:FilesAt w a fs) (hnt:¬treeOk fs):
 Calls prog 75 #[.agg #[.slice a fs.length cap]] w fun e w'=>(∃ g,e=.returned (.slice (some ⟨g,0,none⟩) 0 0))/\Below w.heap.size w w':=by
 go_enter func75,ntmps75
 go_wp2_with fail
 have hb0:Below w.heap.size w ((w.alloc (.cells #[.slice a fs.length cap] 51)).alloc (.cells #[] 119)):=bA.alloc sm_ _;refine (G.c97 a cap fs _ hl hs (G.T.files_below hat hb0)).mono ?_;rintro e w1 ⟨⟨ms,pa,pc,rfl,_,hpt⟩,hb1⟩;have hB1:=bT hb0 hb1;obtain rfl:ms=[]:=by
  rcases hpt with ⟨_,h⟩ | ⟨h,_⟩ | ⟨h,_⟩
  · exact h
  · exact absurd h hnt
  exact absurd h hnt
 clear hb0 hb1 hpt hat hs
 go_wp2_with fail
 go_loopw [3,5] (fun v r wr=>v=.slice (some ⟨w.heap.size+1,0,none⟩) 0 0/\r=.int .i64 0/\wr=w1) (fun _ _ _=>0)
 case atStart=>exact ⟨rfl,rfl,rfl⟩
 obtain ⟨rfl,rfl,hw⟩:=hrel;obtain rfl:=hw.symm;clear hw
 go_wp2_with fail
 go_loopw [6] (fun r wr=>(r=.bool true\/r=.bool false)/\wr=w1) (fun r _=>b1 r)
 case atStart=>exact ⟨.inl rfl,rfl⟩
 obtain ⟨hr,hw⟩:=hrel;obtain rfl:=hw.symm;clear hw;rcases hr with rfl | rfl;rotate_left
 · go_wp2
   go_ret;exact ⟨⟨_,rfl⟩,hB1⟩
 go_wp2_with fail
 go_loopw [6,7] (fun b r wr=>b=.bool false/\r=.int .i64 0/\wr=w1) (fun _ _ _=>0)
 case atStart=>exact ⟨rfl,rfl,rfl⟩
 obtain ⟨rfl,rfl,hw⟩:=hrel;obtain rfl:=hw.symm;clear hw;go_wp2;go_roundw
 case rel=>exact ⟨.inr rfl,trivial⟩
 case measure=>simp [b1]
def PsR (w':World) (v:Value):Prop:=∃ (m:M3) (a:Option Addr) (c:Nat) (ls:List M.L4) (cd:Int) (tx:ByteArray),v=.tuple #[.agg #[.string m.nm,.string m.tl,.string m.ar],.slice a ls.length c,.agg #[.int .i64 cd,.string tx]]/\m.le 999999/\ls.length<=15/\ls.length<=c/\(∀ i,(ls.getD i M.l4z).le 999999)/\tx.size<=999999/\M.LksAt w' a ls
def Is39 (q P:Nat) (w:World) (e:Ending) (w':World):Prop:=(∃ v,e=.returned v/\PsR w' v)/\RdTo w' q P/\But q w w'
structure WayOk (w:World) (x:W8):Prop where
 m:x.m.le 999999
 l:x.ls.length<=15
 s:∀ i,(x.ls.getD i M.l4z).le 999999
 t:x.ov=true->x.tx.size<=999999
 lv:LvAt w x
theorem lkOk_lt {x:M.L4} (h:M.LkOk x):x.le 999999:=by
 refine ⟨by have:=name_le h.1;omega,?_⟩;rcases h.2 with ⟨_,⟨_,h'⟩ | ⟨_,h'⟩⟩ | ⟨_,h'⟩
 · rw [h'];exact Nat.zero_le _
 · rw [h'];have:=name_le h.1;omega
 have:=vr_small h';rw [ba_len] at this;omega
theorem okM_lt {m:M3} (h:okM m=true):m.le 999999:=by
 obtain ⟨h1,h2,h3⟩:=okM_parts h;exact ⟨by have:=name_le h1;omega,by have:=name_le h2;omega,om_⟩
theorem getD_leL {is:List M.L4} (h:∀ x,x∈is->M.LkOk x) (i:Nat):(is.getD i M.l4z).le 999999:=by
 rcases Nat.lt_or_ge i is.length with hi | hi
 · rw [show is.getD i M.l4z=is[i] from by simp [List.getD,hi]]
   exact lkOk_lt (h _ (List.getElem_mem hi))
 rw [show is.getD i M.l4z=M.l4z from by simp [List.getD,hi]];exact ⟨dc_,dc_⟩
theorem way_ok {E:Env} (hE:EnvOk E) {w:World} {x:W8} (h:WOk E x) (hl:LvAt w x):WayOk w x:=by
 have hk:=hE.ms _ h.mem;obtain ⟨h1,h2⟩:=hist_ok hE hk h.his;refine ⟨okM_lt hk,h1,getD_leL h2,fun ho=>?_,hl⟩;obtain ⟨k1,k2⟩:=h.ov ho;have:=vr_small (fin_vr hE (n:=x.m.nm) (r:=⟨x.cd,x.tx⟩) ⟨x.m,x.ls,h.mem,rfl,h.his,k1,k2⟩);have this:x.tx.size<=300:=this;omega
theorem c75a (a:Option Addr) (cap:Nat) (fs:List F2) (w:World) (hl:fs.length<=1048576) (hs:∀ i,(fs.getD i f2z).le 1048576) (hat:FilesAt w a fs):
 Calls prog 75 #[.agg #[.slice a fs.length cap]] w fun e w'=>(∃ (b:Option Addr) (c:Nat) (ws:List W8),e=.returned (.slice b ws.length c)/\ws.length<=30/\(∀ i,i<ws.length->WayOk w' (ws.getD i w8z))/\WysAt w' b ws)/\Below w.heap.size w w':=by
 by_cases ht:treeOk fs;rotate_left
 · refine (c75n a cap fs w hl hs hat ht).mono ?_
   rintro e w' ⟨⟨g,rfl⟩,hb⟩;exact ⟨⟨some ⟨g,0,none⟩,0,[],rfl,dc_,fun i h=>absurd h (Nat.not_lt_zero _),.inl rfl⟩,hb⟩
 obtain ⟨ms,hp⟩:=isPT_ex fs;refine (c75 (envOf fs ms) a cap fs ms rfl w hat ht hp).mono ?_;rintro e w' ⟨v,ws,rfl,hA,hm,_⟩;obtain ⟨b,c,rfl,hw⟩:=row_wys hA.row;have hlen:ws.length=ms.length:=by have:=congrArg List.length hm;simpa using this
 exact ⟨⟨b,c,ws,rfl,by rw [hlen];exact isPT_30 hp,fun i hi=>way_ok (envOk ht hp) (hA.ok i hi) (hA.lv i hi),hw⟩,hA.bl⟩
theorem rd_ne {w:World} {q P:Nat} (hr:RdTo w q P) {g o:Nat} {v:Value} (h:w.cell? ⟨g,o,none⟩=some v) (h1:∀ a n c,v≠.slice a n c) (h2:∀ n,v≠.int .i64 n):g≠q:=by
 rintro rfl;obtain ⟨p,_,a,L,cap,c0,c1,_,⟨_,y,hy⟩,_⟩:=hr;have k:=fun j=>Lib.cell_of_heap hy j;rcases o with _ | _ | o
 · rw [c0] at h;exact h1 _ _ _ (Option.some.inj h).symm
 · rw [c1] at h;exact h2 _ (Option.some.inj h).symm
 have:=k (o+1+1);rw [h] at this;simp at this
theorem lks_only {w w':World} {q P:Nat} {a:Option Addr} {ls:List M.L4} (h:M.LksAt w a ls) (hr:RdTo w q P) (ho:OnlyAt q w w'):M.LksAt w' a ls:=by
 rcases h with h | ⟨b,off,ha,hb,hc⟩
 · exact .inl h
 refine .inr ⟨b,off,ha,by rw [ho.size];exact hb,fun i hi=>?_⟩;have hne:b≠q:=rd_ne hr (hc i hi).1 (fun _ _ _ e=>by cases e) (fun _ e=>by cases e);have e:∀ j,w'.cell? ⟨b,j,none⟩=w.cell? ⟨b,j,none⟩:=fun j=>World.cell?_of_block (ho.block b hne);rw [e,e,e,e];exact hc i hi
theorem wys_only {w w':World} {q P:Nat} {a:Option Addr} {ws:List W8} (h:WysAt w a ws) (hr:RdTo w q P) (ho:OnlyAt q w w'):WysAt w' a ws:=by
 rcases h with h | ⟨b,off,ha,hb,hc⟩
 · exact .inl h
 refine .inr ⟨b,off,ha,by rw [ho.size];exact hb,fun i hi j v e=>?_⟩;have hne:b≠q:=rd_ne hr (hc i hi 0 _ rfl) (fun _ _ _ e=>by cases e) (fun _ e=>by cases e);rw [World.cell?_of_block (ho.block b hne)];exact hc i hi j v e
theorem T6At.run {base b0 b1 b2 b3:Nat} {u:World} {nm tl ar:ByteArray} {s:RS} {v1 v2:Value} (h:RunW base b0 b1 b2 b3 u nm tl ar s v1 v2) {B:Nat} {t:TN} (hB:T6At u B t) (x0 x1 x2 x3 x4 x5:Value):RunW base b0 b1 b2 b3 ((((((u.setCell ⟨B,0,none⟩ x0).setCell ⟨B,1,none⟩ x1).setCell ⟨B,2,none⟩ x2).setCell ⟨B,3,none⟩ x3).setCell ⟨B,4,none⟩ x4).setCell ⟨B,5,none⟩ x5) nm tl ar s v1 v2:=by
 have h0:=heap_setCell_same u B 0 _ 29 x0 hB;have h1:=heap_setCell_same _ B 1 _ 29 x1 h0;have h2:=heap_setCell_same _ B 2 _ 29 x2 h1;have h3:=heap_setCell_same _ B 3 _ 29 x3 h2;have h4:=heap_setCell_same _ B 4 _ 29 x4 h3;exact (((((h.set hB x0).set h0 x1).set h1 x2).set h2 x3).set h3 x4).set h4 x5
theorem RunW.keep {base b0 b1 b2 b3:Nat} {u u':World} {nm tl ar:ByteArray} {s:RS} {v1 v2:Value} (h:RunW base b0 b1 b2 b3 u nm tl ar s v1 v2) {B:Nat} {x:Array Value} (hB:u.heap[B]?=some (.cells x 29 (0,0))) (hk:∀ k,k≠B->u'.heap[k]?=u.heap[k]?):RunW base b0 b1 b2 b3 u' nm tl ar s v1 v2:=by
 have s3:∀ (k:Nat) (x:Array Value) (t:TypeId),u.heap[k]?=some (.cells x t (0,0))->t≠29->u'.heap[k]?=some (.cells x t (0,0)):=fun k x t h1 ht=>(hk k (blk_ne h1 hB ht)).trans h1;refine ⟨h.le0,h.le1,h.le2,h.le3,s3 _ _ _ h.h0 dc_,s3 _ _ _ h.h1 dc_,s3 _ _ _ h.h2 dc_,s3 _ _ _ h.h3 dc_,?_,?_⟩
 · refine ownsRow_keep h.o1 fun k hk'=>?_
   obtain ⟨_,cur,hc⟩:=own_block h.o1 hk';rw [s3 _ _ _ hc dc_,hc]
 refine ownsRow_keep h.o2 fun k hk'=>?_;obtain ⟨_,cur,hc⟩:=own_block h.o2 hk';rw [s3 _ _ _ hc dc_,hc]
theorem c13y (m:M3) (a:Option Addr) (cap:Nat) (ls:List M.L4) (w:World) (hm:m.le 1048576) (hk:okM m=true) (h15:ls.length<=15) (hs:∀ i,(ls.getD i M.l4z).le 1048576) (hat:M.LksAt w a ls) (hsh:ShapesAt w) (hmx:MaxAt w):
 Calls prog 13 #[.agg #[.string m.nm,.string m.tl,.string m.ar],.slice a ls.length cap] w fun e w'=>e=.returned (goL m.tl m.ar (turn0 m.tl) rs0 ls).v/\Below w.heap.size w w':=by
 have hml:m.le 1048700:=⟨by have:=hm.1;omega,by have:=hm.2.1;omega,by have:=hm.2.2;omega⟩;have h15':(ls.length:Int)<=15:=om_;have HW:Hid (WG m w=(w.alloc (.cells #[.string m.nm,.string m.tl,.string m.ar] 24)).alloc (.cells #[.bool false,.int .i64 0,.string ⟨#[]⟩,.bool false,.string ⟨#[]⟩,.int .i64 0] 29)):=rfl;have HAT:Hid (M.LksAt w a ls):=hat;have HSH:Hid (ShapesAt w):=hsh;have HMX:Hid (MaxAt w):=hmx;clear hat hsh hmx;go_enter func13,ntmps13
 go_wp2_with fail
 rw [<- HW.out];refine (G.c35v hk _ hml).mono ?_;rintro e w1 ⟨rfl,hb1⟩;have HB:Hid (Below (w.heap.size+2) (WG m w) w1):=hb1.mono (by rw [WG_size];omega);obtain ⟨x0,x1,x2⟩:=WG_m HB.out;have hz1:w.heap.size+2<=w1.heap.size:=by have:=hb1.size;rw [WG_size] at this;exact this
 clear hb1
 go_wp2_with fail
 refine (c36 m.nm m.tl m.ar w1).mono ?_;rintro e w2 ⟨rfl,hb2⟩;have HB2:Hid (Below (w.heap.size+2) (WG m w) w2):=HB.out.trans (hb2.mono hz1);have hz2:w.heap.size+2<=w2.heap.size:=Nat.le_trans hz1 hb2.size;obtain ⟨y0,y1,y2⟩:=WG_m HB2.out;have p0:=past (show w.heap.size<w2.heap.size by omega) y0;have p1:=past (show w.heap.size<w2.heap.size by omega) y1;have p2:=past (show w.heap.size<w2.heap.size by omega) y2;obtain ⟨w3,hw3⟩:∃ w3,w3=w2.alloc (.cells #[.bool false,.int .i64 0,.string ⟨#[]⟩,.bool false,.string m.tl,.int .i64 0] 29):=⟨_,rfl⟩;have HW3:Hid (w3=w2.alloc (.cells #[.bool false,.int .i64 0,.string ⟨#[]⟩,.bool false,.string m.tl,.int .i64 0] 29)):=hw3;clear hw3;clear hb2 HB x0 x1 x2
 go_wp2_with fail
 rw [<- HW3.out];refine (c37 m.nm m.tl m.ar w3).mono ?_;rintro e w4 ⟨b0,b1,b2,b3,rfl,hrun,hb4⟩;have hz3:w3.heap.size=w2.heap.size+1:=by rw [HW3.out];simp
 have hz4:w2.heap.size+1<=w4.heap.size:=by have:=hb4.size;omega
 have HT4:Hid (w4.heap[w2.heap.size]?=some (.cells #[.bool false,.int .i64 0,.string ⟨#[]⟩,.bool false,.string m.tl,.int .i64 0] 29 (0,0))):=(hb4.block _ om_).trans (by rw [HW3.out];exact alloc_new rfl _);have HB4:Hid (Below (w.heap.size+2) (WG m w) w4):=(HB2.out.trans (by rw [HW3.out];exact (Below.refl _ _).alloc hz2 _)).trans (hb4.mono om_);have HRUN:Hid (RunW w3.heap.size b0 b1 b2 b3 w4 m.nm m.tl m.ar rs0 (.slice none 0 0) (.slice none 0 0)):=hrun;clear hb4 hrun y0 y1 y2 p0 p1 p2
 go_wp2_with fail
 go_loopw [24] (fun r wr=>∃ (k:Nat) (t:TN) (s:RS) (v1 v2:Value),r=.int .i64 k/\k<=ls.length/\Hid (goL m.tl m.ar (turn0 m.tl) rs0 ls=goL m.tl m.ar t s (ls.drop k))/\Hid (T6At wr w2.heap.size t)/\Hid (RunW w3.heap.size b0 b1 b2 b3 wr m.nm m.tl m.ar s v1 v2)/\Hid (RSOk s)/\s.reps.length<=k/\Hid (Below (w.heap.size+2) (WG m w) wr)/\w3.heap.size<=wr.heap.size) (fun r _=>ls.length - (intOf r).toNat)
 case atStart=>exact ⟨0,turn0 m.tl,rs0,_,_,rfl,Nat.zero_le _,rfl,HT4.out,HRUN.out,rs0_ok,Nat.zero_le _,HB4.out,om_⟩
 case round=>
  obtain ⟨k,t,s,v1,v2,rfl,hkl,HG,HT,HR,HO,hsl,HBr,hzr⟩:=hrel;have hBw:Below w.heap.size w wr:=(WG_below m w).trans (HBr.out.mono om_);obtain ⟨o,c,tx,hh,n,st⟩:=t;obtain ⟨t0,t1,t2,t3,t4,t5,tf⟩:=T6At.cells HT.out;by_cases hlt:k<ls.length
  · obtain ⟨lb,off,ha,hlb,x0,x1,x2,x3⟩:=lks_cells HAT.out hBw hlt
    subst ha;have hxs:=hs k;have HD:Hid (ls.drop k=ls.getD k M.l4z::ls.drop (k+1)):=drop_get hlt;generalize ls.getD k M.l4z=x at*;obtain ⟨xh,xn,xc,xt⟩:=x;have hl1:w2.heap.size<wr.heap.size:=om_;have hl2:w.heap.size+1<wr.heap.size:=om_;have p0:=past (p:=⟨w2.heap.size,0,none⟩) hl1 t0 (.cells #[.bool xh,.string xn,.int .i64 xc,.string xt] 74);have p3:=past (p:=⟨w2.heap.size,3,none⟩) hl1 t3 (.cells #[.bool xh,.string xn,.int .i64 xc,.string xt] 74);have p4:=past (p:=⟨w2.heap.size,4,none⟩) hl1 t4 (.cells #[.bool xh,.string xn,.int .i64 xc,.string xt] 74);have HBa:Hid (Below (w.heap.size+2) (WG m w) (wr.alloc (.cells #[.bool xh,.string xn,.int .i64 xc,.string xt] 74))):=HBr.out.alloc om_ _;clear t0 t1 t2 t3 t4 t5 tf hBw;cases o
    · by_cases hhe:xh=hh
      · subst hhe
        by_cases hne:xn=n
        · subst hne
          have hne':(xn.toList==xn.toList)=true:=sm_
          go_wp2_with fail
          refine (M.c38 ⟨xh,xn,xc,xt⟩ _ ⟨by have:=hxs.1;exact Nat.le_trans this om_,by have:=hxs.2;exact Nat.le_trans this om_⟩).mono ?_;rintro e w5 ⟨⟨r,rfl,hr⟩,hb5⟩;have hz5:wr.heap.size+1<=w5.heap.size:=by have:=hb5.size;simpa using this
          have HB5:Hid (Below (w.heap.size+2) (WG m w) w5):=HBa.out.trans (hb5.mono so_);have HX:Hid (r=true↔M.LkOk ⟨xh,xn,xc,xt⟩):=hr;have hbr:Below wr.heap.size wr w5:=bA.trans (hb5.mono sm_);have HT5:Hid (T6At w5 w2.heap.size ⟨false,c,tx,xh,xn,st⟩):=HT.out.below hbr hl1;have HR5:Hid (RunW w3.heap.size b0 b1 b2 b3 w5 m.nm m.tl m.ar s v1 v2):=HR.out.below hbr;have z2:w5.cell? ⟨wr.heap.size,2,none⟩=some (.int .i64 xc):=(hb5.cell (p:=⟨wr.heap.size,2,none⟩) sm_).trans (by simp [go_sem]);have z3:w5.cell? ⟨wr.heap.size,3,none⟩=some (.string xt):=(hb5.cell (p:=⟨wr.heap.size,3,none⟩) sm_).trans (by simp [go_sem]);clear hb5 hr hbr p0 p3 p4 x0 x1 x2 x3;cases r
          · have HZ:Hid (goL m.tl m.ar (turn0 m.tl) rs0 ls=zeroT):=by
             rw [HG.out,HD.out];exact goL_halt (.inr (.inr (.inr fun h=>by cases HX.out.2 h)))
            go_wp2_with (refine wp_turn rfl (.tmp 4) (.tmp 49) rfl (w.heap.size+1) rfl zeroT zeroT rfl (WG_z HB5.out) rfl ?_;intro u' hT' hB' _)
            refine bodyPost_ret (v:=zeroT.v) (M.results_blk (P:=prog) (ty:=29) rfl _ _ (w.heap.size+1) _ _ rfl hT'.blk underlying29 rfl kr_) rfl ⟨by rw [HZ.out],?_⟩;exact ((WG_below m w).trans (HB5.out.mono om_)).trans (hB' _ om_)
          have hhalt:¬ Halt ⟨false,c,tx,xh,xn,st⟩ ⟨xh,xn,xc,xt⟩:=by
           rintro (h | h | h | h)
           · cases h
           · exact h rfl
           · exact h rfl
           exact h (HX.out.1 rfl)
          have HG':Hid (goL m.tl m.ar (turn0 m.tl) rs0 ls=goL m.tl m.ar (nextR m.tl m.ar s ⟨xc,xt⟩).1 (nextR m.tl m.ar s ⟨xc,xt⟩).2 (ls.drop (k+1))):=by
           rw [HG.out,HD.out];exact goL_go hhalt
          have hBw5:Below w.heap.size w w5:=(WG_below m w).trans (HB5.out.mono om_);have hw1:1<w.heap.size:=HMX.out.1
          go_wp2_with fail
          refine (c70 w3.heap.size b0 b1 b2 b3 m.nm m.tl m.ar s v1 v2 ⟨xc,xt⟩ w5 HR5.out HO.out om_ (by have:=hxs.2;exact this) (by have:=hm.2.2;exact this) (shapes_below HSH.out hBw5) (max_below HMX.out hBw5) om_).mono ?_;rintro e w6 ⟨rfl,⟨v1',v2',HR6,_⟩,hx6⟩;have hb6:Below w3.heap.size w5 w6:=hx6.below (fun k e=>by
           rcases e with rfl | rfl | rfl | e
           · exact HR5.out.le0
           · exact HR5.out.le1
           · exact HR5.out.le2
           exact (HR5.out.o1.lt k e).1) om_
          clear hx6;have HO6:Hid (RSOk (nextR m.tl m.ar s ⟨xc,xt⟩).2):=next_ok HO.out (by have:=hxs.2;exact this);have hl6:(nextR m.tl m.ar s ⟨xc,xt⟩).2.reps.length<=s.reps.length+1:=next_len;obtain ⟨⟨t',s'⟩,hN⟩:∃ p,nextR m.tl m.ar s ⟨xc,xt⟩=p:=⟨_,rfl⟩;rw [hN] at HR6 HO6 hl6 HG';rw [hN];have HT6:Hid (T6At w6 w2.heap.size ⟨false,c,tx,xh,xn,st⟩):=HT5.out.below hb6 om_;have HRW:Hid (RunW w3.heap.size b0 b1 b2 b3 w6 m.nm m.tl m.ar s' v1' v2'):=HR6;have HB6:Hid (Below (w.heap.size+2) (WG m w) w6):=HB5.out.trans (hb6.mono om_);have hz6:w5.heap.size<=w6.heap.size:=hb6.size;have hl6':s'.reps.length<=s.reps.length+1:=hl6;clear hb6 HR6 hN hl6 hhalt z2 z3;obtain ⟨o',c',tx',hh',n',st'⟩:=t'
          go_wp2_with (refine wp_turn rfl _ _ rfl w2.heap.size rfl ⟨o',c',tx',hh',n',st'⟩ _ rfl HT6.out rfl ?_;intro u' hT' hB' hK')
          have HT':Hid (T6At u' w2.heap.size ⟨o',c',tx',hh',n',st'⟩):=hT';have HRK:Hid (RunW w3.heap.size b0 b1 b2 b3 u' m.nm m.tl m.ar s' v1' v2'):=HRW.out.keep HT6.out hK';have HBK:Hid (Below (w.heap.size+2) (WG m w) u'):=HB6.out.trans (hB' _ om_);have hzu:w6.heap.size<=u'.heap.size:=(hB' 0 om_).size;clear hT' hB' hK';go_roundw
          case rel=>exact ⟨k+1,⟨o',c',tx',hh',n',st'⟩,s',v1',v2',by go_num,om_,HG',HT',HRK,HO6,om_,HBK,om_⟩
          case measure=>simp [intOf];omega
        have hne':¬ xn.toList=n.toList:=fun h=>hne ((M.ba_iff _ _).1 h);have HZ:Hid (goL m.tl m.ar (turn0 m.tl) rs0 ls=zeroT):=by rw [HG.out,HD.out];exact goL_halt (.inr (.inr (.inl hne)))
        go_wp2_with (refine wp_turn rfl (.tmp 4) (.tmp 49) rfl (w.heap.size+1) rfl zeroT zeroT rfl (WG_z HBa.out) rfl ?_;intro u' hT' hB' _)
        refine bodyPost_ret (v:=zeroT.v) (M.results_blk (P:=prog) (ty:=29) rfl _ _ (w.heap.size+1) _ _ rfl hT'.blk underlying29 rfl kr_) rfl ⟨by rw [HZ.out],?_⟩;exact ((WG_below m w).trans (HBa.out.mono om_)).trans (hB' _ om_)
      have HZ:Hid (goL m.tl m.ar (turn0 m.tl) rs0 ls=zeroT):=by rw [HG.out,HD.out];exact goL_halt (.inr (.inl hhe))
      go_wp2_with (refine wp_turn rfl (.tmp 4) (.tmp 49) rfl (w.heap.size+1) rfl zeroT zeroT rfl (WG_z HBa.out) rfl ?_;intro u' hT' hB' _)
      refine bodyPost_ret (v:=zeroT.v) (M.results_blk (P:=prog) (ty:=29) rfl _ _ (w.heap.size+1) _ _ rfl hT'.blk underlying29 rfl kr_) rfl ⟨by rw [HZ.out],?_⟩;exact ((WG_below m w).trans (HBa.out.mono om_)).trans (hB' _ om_)
    have HZ:Hid (goL m.tl m.ar (turn0 m.tl) rs0 ls=zeroT):=by rw [HG.out,HD.out];exact goL_halt (.inl rfl)
    go_wp2_with (refine wp_turn rfl (.tmp 4) (.tmp 49) rfl (w.heap.size+1) rfl zeroT zeroT rfl (WG_z HBa.out) rfl ?_;intro u' hT' hB' _)
    refine bodyPost_ret (v:=zeroT.v) (M.results_blk (P:=prog) (ty:=29) rfl _ _ (w.heap.size+1) _ _ rfl hT'.blk underlying29 rfl kr_) rfl ⟨by rw [HZ.out],?_⟩;exact ((WG_below m w).trans (HBa.out.mono om_)).trans (hB' _ om_)
  have hke:k=ls.length:=om_;have HZ:Hid (goL m.tl m.ar (turn0 m.tl) rs0 ls=⟨o,c,tx,hh,n,st⟩):=by
   rw [HG.out,hke,List.drop_eq_nil_of_le lr_];rfl
  subst hke
  go_wp2_with (refine wp_turn rfl _ _ rfl (w.heap.size+1) rfl ⟨o,c,tx,hh,n,st⟩ zeroT rfl (WG_z HBr.out) rfl ?_;intro u' hT' hB' _)
  refine bodyPost_ret (v:=TN.v ⟨o,c,tx,hh,n,st⟩) (M.results_blk (P:=prog) (ty:=29) rfl _ _ (w.heap.size+1) _ _ rfl hT'.blk underlying29 rfl kr_) rfl ⟨by rw [HZ.out],?_⟩;exact ((WG_below m w).trans (HBr.out.mono om_)).trans (hB' _ om_)
end Go.Proofs.YthjhakdpikdoeaaGreatDoor
