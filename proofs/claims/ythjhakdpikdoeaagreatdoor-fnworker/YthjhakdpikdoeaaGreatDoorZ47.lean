import Derived.Test.YthjhakdpikdoeaaGreatDoorKH6
import Derived.Test.YthjhakdpikdoeaaGreatDoorKYE
import Derived.Maps.OwnSet
import Derived.Maps.OwnRows
set_option linter.unusedVariables false
set_option maxHeartbeats 8000000
set_option maxRecDepth 100000
namespace Go.Proofs.YthjhakdpikdoeaaGreatDoor
open Proofs.Tryz
open Go.RowKit
def LkC (u:World) (b j:Nat) (x:M.L4):Prop:=u.cell? ⟨b,j,none⟩=some (.bool x.has)/\u.cell? ⟨b,j+1,none⟩=some (.string x.nm)/\u.cell? ⟨b,j+2,none⟩=some (.int .i64 x.cd)/\u.cell? ⟨b,j+3,none⟩=some (.string x.tx)
theorem c66 (a:Option Addr) (cap:Nat) (a':Option Addr) (cap':Nat) (L:List M.L4) (w:World) (hl:L.length<=1048576) (hat:M.LksAt w a L) (hat':M.LksAt w a' L):
 Calls prog 66 #[.slice a L.length cap,.slice a' L.length cap'] w fun e w'=>e=.returned (.bool true)/\Below w.heap.size w w':=by
 have HA:=hdI hat;have HA':=hdI hat';have hl':(L.length:Int)<=1048576:=om_;clear hat hat';go_enter func66,ntmps66
 go_wp2_with fail
 go_loopw [5] (fun r wr=>∃ k:Nat,r=.int .i64 k/\k<=L.length/\Hid (Below w.heap.size w wr)) (fun r _=>L.length - (intOf r).toNat)
 case atStart=>exact ⟨0,rfl,Nat.zero_le _,Below.refl _ _⟩
 obtain ⟨k,rfl,hk,HB⟩:=hrel;by_cases hlt:k<L.length;rotate_left
 · obtain rfl:k=L.length:=om_
   go_wp2;go_ret;exact ⟨rfl,HB.out⟩
 have HB2:=hdI HB.out.drew;obtain ⟨b,off,ha,hb,x0,x1,x2,x3⟩:=lks_cells HA.out HB2.out hlt;obtain ⟨b',off',ha',hb',y0,y1,y2,y3⟩:=lks_cells HA'.out HB2.out hlt;subst ha ha';generalize L.getD k M.l4z=x at*;obtain ⟨xh,xn,xc,xt⟩:=x;have HX:Hid (LkC wr.drew b (off+k*4) ⟨xh,xn,xc,xt⟩/\LkC wr.drew b' (off'+k*4) ⟨xh,xn,xc,xt⟩):=⟨⟨x0,x1,x2,x3⟩,y0,y1,y2,y3⟩;clear x0 x1 x2 x3 y0 y1 y2 y3
 go_upto_region 6 with fail
 refine wp_region_held_drew (S:=fun u=>(u.cell? ⟨b,off+k*4,none⟩=some (.bool xh)/\u.cell? ⟨b,off+k*4+1,none⟩=some (.string xn)/\u.cell? ⟨b,off+k*4+2,none⟩=some (.int .i64 xc)/\u.cell? ⟨b,off+k*4+3,none⟩=some (.string xt))/\u.cell? ⟨b',off'+k*4,none⟩=some (.bool xh)/\u.cell? ⟨b',off'+k*4+1,none⟩=some (.string xn)/\u.cell? ⟨b',off'+k*4+2,none⟩=some (.int .i64 xc)/\u.cell? ⟨b',off'+k*4+3,none⟩=some (.string xt)) kr_ HX.out fun hH=>?_;refine tq 0 hH ?_;refine tq 1 hH ?_;refine tq 2 hH ?_;refine tq 3 hH ?_;refine tq 4 hH ?_;refine tq 5 hH ?_;refine tq 6 hH ?_;refine tq 7 hH ?_;refine tq (v:=.bool false) 8 hH ?_ (hv:=by intro u hu;simp [go_sem])
 try simp only [qq]
 refine wpAnyH_done kr_ ?_ _;clear hH;go_wp2;go_roundw
 case rel=>exact ⟨k+1,by go_num,om_,HB2.out⟩
 case measure=>simp [intOf];omega
theorem c29 (x:M.G16) (b:Option Addr) (n:Nat) (b':Option Addr) (n':Nat) (w:World) (hl:x.ls.length<=1048576) (hat:M.LksAt w b x.ls) (hat':M.LksAt w b' x.ls):
 Calls prog 29 #[.agg (mc x b n).toArray,.agg (mc x b' n').toArray] w fun e w'=>e=.returned (.bool true)/\Below w.heap.size w w':=by
 have HA:=hdI hat;have HA':=hdI hat';clear hat hat';obtain ⟨kd,to,fr,ep,ed,⟨m1,m2,m3⟩,ls,ct,⟨o,c,t,hs,nm,st⟩⟩:=x;dsimp only at HA HA' hl;show Calls prog 29 #[.agg #[.int .i64 kd,.int .i64 to,.int .i64 fr,.int .i64 ep,.int .i64 ed,.string m1,.string m2,.string m3,.slice b ls.length n,.int .i64 ct,.bool o,.int .i64 c,.string t,.bool hs,.string nm,.int .i64 st],.agg #[.int .i64 kd,.int .i64 to,.int .i64 fr,.int .i64 ep,.int .i64 ed,.string m1,.string m2,.string m3,.slice b' ls.length n',.int .i64 ct,.bool o,.int .i64 c,.string t,.bool hs,.string nm,.int .i64 st]] w _;go_enter func29,ntmps29
 go_wp2_with fail
 have b0:Below w.heap.size w ((w.alloc (.cells #[.int .i64 kd,.int .i64 to,.int .i64 fr,.int .i64 ep,.int .i64 ed,.string m1,.string m2,.string m3,.slice b ls.length n,.int .i64 ct,.bool o,.int .i64 c,.string t,.bool hs,.string nm,.int .i64 st] 31)).alloc (.cells #[.int .i64 kd,.int .i64 to,.int .i64 fr,.int .i64 ep,.int .i64 ed,.string m1,.string m2,.string m3,.slice b' ls.length n',.int .i64 ct,.bool o,.int .i64 c,.string t,.bool hs,.string nm,.int .i64 st] 31)):=by2 _ _ _;have C0:Cl ((w.alloc (.cells #[.int .i64 kd,.int .i64 to,.int .i64 fr,.int .i64 ep,.int .i64 ed,.string m1,.string m2,.string m3,.slice b ls.length n,.int .i64 ct,.bool o,.int .i64 c,.string t,.bool hs,.string nm,.int .i64 st] 31)).alloc (.cells #[.int .i64 kd,.int .i64 to,.int .i64 fr,.int .i64 ep,.int .i64 ed,.string m1,.string m2,.string m3,.slice b' ls.length n',.int .i64 ct,.bool o,.int .i64 c,.string t,.bool hs,.string nm,.int .i64 st] 31)) w.heap.size 31 [.int .i64 kd,.int .i64 to,.int .i64 fr,.int .i64 ep,.int .i64 ed,.string m1,.string m2,.string m3,.slice b ls.length n,.int .i64 ct,.bool o,.int .i64 c,.string t,.bool hs,.string nm,.int .i64 st]:=cl_old (cl_new w _ 31) _;have C1:Cl ((w.alloc (.cells #[.int .i64 kd,.int .i64 to,.int .i64 fr,.int .i64 ep,.int .i64 ed,.string m1,.string m2,.string m3,.slice b ls.length n,.int .i64 ct,.bool o,.int .i64 c,.string t,.bool hs,.string nm,.int .i64 st] 31)).alloc (.cells #[.int .i64 kd,.int .i64 to,.int .i64 fr,.int .i64 ep,.int .i64 ed,.string m1,.string m2,.string m3,.slice b' ls.length n',.int .i64 ct,.bool o,.int .i64 c,.string t,.bool hs,.string nm,.int .i64 st] 31)) (w.heap.size+1) 31 [.int .i64 kd,.int .i64 to,.int .i64 fr,.int .i64 ep,.int .i64 ed,.string m1,.string m2,.string m3,.slice b' ls.length n',.int .i64 ct,.bool o,.int .i64 c,.string t,.bool hs,.string nm,.int .i64 st]:=cl_at sm_;generalize (w.alloc (.cells #[.int .i64 kd,.int .i64 to,.int .i64 fr,.int .i64 ep,.int .i64 ed,.string m1,.string m2,.string m3,.slice b ls.length n,.int .i64 ct,.bool o,.int .i64 c,.string t,.bool hs,.string nm,.int .i64 st] 31)).alloc (.cells #[.int .i64 kd,.int .i64 to,.int .i64 fr,.int .i64 ep,.int .i64 ed,.string m1,.string m2,.string m3,.slice b' ls.length n',.int .i64 ct,.bool o,.int .i64 c,.string t,.bool hs,.string nm,.int .i64 st] 31)=y0 at b0 C0 C1 ⊢;refine (c66 b n b' n' ls y0 hl (M.lks_below HA.out b0) (M.lks_below HA'.out b0)).mono ?_;rintro e y1 ⟨rfl,hb⟩;have B1:=hdI (bT b0 hb);have C0:=C0.below hb C0.lt;have C1:=C1.below hb C1.lt;have p9:y1.cell? ⟨w.heap.size,9,none⟩=some (.int .i64 ct):=C0.cell 9;have q9:y1.cell? ⟨w.heap.size+1,9,none⟩=some (.int .i64 ct):=C1.cell 9;have p10:y1.cell? ⟨w.heap.size,10,none⟩=some (.bool o):=C0.cell 10;have q10:y1.cell? ⟨w.heap.size+1,10,none⟩=some (.bool o):=C1.cell 10;have p11:y1.cell? ⟨w.heap.size,11,none⟩=some (.int .i64 c):=C0.cell 11;have q11:y1.cell? ⟨w.heap.size+1,11,none⟩=some (.int .i64 c):=C1.cell 11;have p12:y1.cell? ⟨w.heap.size,12,none⟩=some (.string t):=C0.cell 12;have q12:y1.cell? ⟨w.heap.size+1,12,none⟩=some (.string t):=C1.cell 12;have p13:y1.cell? ⟨w.heap.size,13,none⟩=some (.bool hs):=C0.cell 13;have q13:y1.cell? ⟨w.heap.size+1,13,none⟩=some (.bool hs):=C1.cell 13;have p14:y1.cell? ⟨w.heap.size,14,none⟩=some (.string nm):=C0.cell 14;have q14:y1.cell? ⟨w.heap.size+1,14,none⟩=some (.string nm):=C1.cell 14;have p15:y1.cell? ⟨w.heap.size,15,none⟩=some (.int .i64 st):=C0.cell 15;have q15:y1.cell? ⟨w.heap.size+1,15,none⟩=some (.int .i64 st):=C1.cell 15;clear C0 C1 hb b0 HA HA';go_wp2;go_ret;exact ⟨rfl,B1.out⟩
section
variable {ops:Array Oper} {rest:List Oper} {o:Oper} {a:Act} {u:World} {Q:Exit->Act->World->Prop}
end
theorem c9 (no:Int) (up has:Bool) (x:M.G16) (b:Option Addr) (n:Nat) (b':Option Addr) (n':Nat) (w:World) (hl:x.ls.length<=1048576) (hat:M.LksAt w b x.ls) (hat':M.LksAt w b' x.ls):
 Calls prog 9 #[.agg (wk no up has (mc x b n)).toArray,.agg (wk no up has (mc x b' n')).toArray] w fun e w'=>e=.returned (.bool true)/\Below w.heap.size w w':=by
 have HA:=hdI hat;have HA':=hdI hat';clear hat hat';show Calls prog 9 #[.agg #[.int .i64 no,.bool up,.bool has,.int .i64 x.kd,.int .i64 x.to,.int .i64 x.fr,.int .i64 x.ep,.int .i64 x.ed,.string x.km.nm,.string x.km.tl,.string x.km.ar,.slice b x.ls.length n,.int .i64 x.ct,.bool x.tn.over,.int .i64 x.tn.cd,.string x.tn.tx,.bool x.tn.has,.string x.tn.nm,.int .i64 x.tn.st],.agg #[.int .i64 no,.bool up,.bool has,.int .i64 x.kd,.int .i64 x.to,.int .i64 x.fr,.int .i64 x.ep,.int .i64 x.ed,.string x.km.nm,.string x.km.tl,.string x.km.ar,.slice b' x.ls.length n',.int .i64 x.ct,.bool x.tn.over,.int .i64 x.tn.cd,.string x.tn.tx,.bool x.tn.has,.string x.tn.nm,.int .i64 x.tn.st]] w _;go_enter func9,ntmps9
 go_upto_region 1 with fail
 obtain ⟨y0,hy⟩:∃ y:World,y=(w.alloc (.cells (wk no up has (mc x b n)).toArray 33)).alloc (.cells (wk no up has (mc x b' n')).toArray 33):=⟨_,rfl⟩;have hy':=hy;simp only [wk,mc] at hy';rw [<- hy'];have b0:Below w.heap.size w y0:=by rw [hy];exact by2 _ _ _
 have C0:Cl y0 w.heap.size 33 (wk no up has (mc x b n)):=by rw [hy];exact cl_old (cl_new w _ 33) _
 have C1:Cl y0 (w.heap.size+1) 33 (wk no up has (mc x b' n')):=by rw [hy];exact cl_at sm_
 clear hy hy';have p0:y0.cell? ⟨w.heap.size,0,none⟩=some (.int .i64 no):=C0.cell 0;have p1:y0.cell? ⟨w.heap.size,1,none⟩=some (.bool up):=C0.cell 1;have p2:y0.cell? ⟨w.heap.size,2,none⟩=some (.bool has):=C0.cell 2;have q0:y0.cell? ⟨w.heap.size+1,0,none⟩=some (.int .i64 no):=C1.cell 0;have q1:y0.cell? ⟨w.heap.size+1,1,none⟩=some (.bool up):=C1.cell 1;have q2:y0.cell? ⟨w.heap.size+1,2,none⟩=some (.bool has):=C1.cell 2;unfold wk at C0 C1;generalize hV:mc x b n=V at C0;generalize hU:mc x b' n'=U at C1;have C0:Hid (Cl y0 w.heap.size 33 ([.int .i64 no,.bool up,.bool has]++V)):=C0;have C1:Hid (Cl y0 (w.heap.size+1) 33 ([.int .i64 no,.bool up,.bool has]++U)):=C1;have VL:Hid (V.length=16):=by show _=_;rw [<- hV];rfl
 have UL:Hid (U.length=16):=by show _=_;rw [<- hU];rfl
 have HV:=hdI hV;have HU:=hdI hU;clear hV hU;generalize Value.agg #[.int .i64 no,.bool up,.bool has,.int .i64 x.kd,.int .i64 x.to,.int .i64 x.fr,.int .i64 x.ep,.int .i64 x.ed,.string x.km.nm,.string x.km.tl,.string x.km.ar,.slice b x.ls.length n,.int .i64 x.ct,.bool x.tn.over,.int .i64 x.tn.cd,.string x.tn.tx,.bool x.tn.has,.string x.tn.nm,.int .i64 x.tn.st]=T1;generalize Value.agg #[.int .i64 no,.bool up,.bool has,.int .i64 x.kd,.int .i64 x.to,.int .i64 x.fr,.int .i64 x.ep,.int .i64 x.ed,.string x.km.nm,.string x.km.tl,.string x.km.ar,.slice b' x.ls.length n',.int .i64 x.ct,.bool x.tn.over,.int .i64 x.tn.cd,.string x.tn.tx,.bool x.tn.has,.string x.tn.nm,.int .i64 x.tn.st]=T2
 go_wp2_with (first | refine wp_ldmW rfl (.tmp 25) rfl (B:=w.heap.size) (j:=3) rfl (pre:=[.int .i64 no,.bool up,.bool has]) (t:=33) (vs:=V) (by with_reducible exact C0.out) VL.out rfl ?_ | refine wp_ldmW rfl (.tmp 27) rfl (B:=w.heap.size+1) (j:=3) rfl (pre:=[.int .i64 no,.bool up,.bool has]) (t:=33) (vs:=U) (by with_reducible exact C1.out) UL.out rfl ?_)
 rw [<- HV.out,<- HU.out];refine (c29 x b n b' n' y0 hl (M.lks_below HA.out b0) (M.lks_below HA'.out b0)).mono ?_;rintro e y1 ⟨rfl,hb⟩;have B1:=hdI (bT b0 hb);clear C0 C1 hb b0 HA HA' p0 p1 p2 q0 q1 q2;go_wp2;go_ret;exact ⟨rfl,B1.out⟩
end Go.Proofs.YthjhakdpikdoeaaGreatDoor
namespace Go.Proofs.YthjhakdpikdoeaaGreatDoor
open Proofs.Tryz
open Go.RowKit
def mcs (xs:List M.G16):List Value:=xs.flatMap fun x=>mc x none 0
theorem mcs_get (xs:List M.G16) (i j:Nat) (h:i<xs.length) (hj:j<16):(mcs xs)[i*16+j]?=(mc (xs.getD i M.g16z) none 0)[j]?:=by
 induction xs generalizing i with
 | nil=>simp at h
 | cons x r ih=>
  show (mc x none 0++mcs r)[i*16+j]?=_
  cases i with
  | zero=>rw [List.getElem?_append_left (by show _<16;omega)];simp
  | succ i=>
   rw [List.getElem?_append_right (by show 16<=_;omega)];have:=ih i (by simpa using h);rw [show (i+1)*16+j - (mc x none 0).length=i*16+j by show (i+1)*16+j - 16=_;omega];simpa using this
theorem c10 (xs:List M.G16) (hls:∀ x∈xs,x.ls=[]) (hk:xs.length<=2) (B B':Nat) (v v':Value) (w:World) (hr:w.ownsRow B 31 16 v xs.length (mcs xs)) (hr':w.ownsRow B' 31 16 v' xs.length (mcs xs)):
 Calls prog 10 #[v,v'] w fun e w'=>e=.returned (.bool true)/\Below w.heap.size w w':=by
 obtain ⟨a,c,rfl⟩:=row_sl hr;obtain ⟨a',c',rfl⟩:=row_sl hr';have HR:=hdI hr;have HR':=hdI hr';clear hr hr';have hl':(xs.length:Int)<=2:=om_;go_enter func10,ntmps10
 go_wp2_with fail
 go_loopw [5] (fun r wr=>∃ k:Nat,r=.int .i64 k/\k<=xs.length/\Hid (Below w.heap.size w wr)) (fun r _=>xs.length - (intOf r).toNat)
 case atStart=>exact ⟨0,rfl,Nat.zero_le _,Below.refl _ _⟩
 obtain ⟨k,rfl,hkl,HB⟩:=hrel;by_cases hlt:k<xs.length;rotate_left
 · obtain rfl:k=xs.length:=om_
   go_wp2;go_ret;exact ⟨rfl,HB.out⟩
 have HB2:=hdI HB.out.drew;obtain ⟨g,rfl⟩:=row_pos HR.out om_;obtain ⟨g',rfl⟩:=row_pos HR'.out om_;have hg:=(HR.out.lt g rfl).2;have hg':=(HR'.out.lt g' rfl).2;have hxl:=hls (xs.getD k M.g16z) (by simp [List.getD,hlt]);have SS:Hid (∀ u,Below w.heap.size w u->(∀ j y,(mc (xs.getD k M.g16z) none 0)[j]?=some y->u.cell? ⟨g,k*16+j,none⟩=some y)/\∀ j y,(mc (xs.getD k M.g16z) none 0)[j]?=some y->u.cell? ⟨g',k*16+j,none⟩=some y):=fun u hu=>⟨fun j y e=>by
   have hj:j<16:=(List.getElem?_eq_some_iff.1 e).1;rw [hu.cell (p:=⟨g,k*16+j,none⟩) hg,HR.out.cellAt _ om_,mcs_get xs k j hlt hj];exact e,fun j y e=>by
   have hj:j<16:=(List.getElem?_eq_some_iff.1 e).1;rw [hu.cell (p:=⟨g',k*16+j,none⟩) hg',HR'.out.cellAt _ om_,mcs_get xs k j hlt hj];exact e⟩
 generalize xs.getD k M.g16z=x at hxl SS;have HL:=hdI hxl;generalize hV:mc x none 0=V at SS;have VL:Hid (V.length=16):=by show _=_;rw [<- hV];rfl
 have HV:=hdI hV;clear hV hxl
 go_upto_region 6 with fail
 refine wp_region_held_drew (S:=fun u=>(∀ j y,V[j]?=some y->u.cell? ⟨g,k*16+j,none⟩=some y)/\∀ j y,V[j]?=some y->u.cell? ⟨g',k*16+j,none⟩=some y) kr_ (SS.out _ HB2.out) fun hH=>?_;have hkI:(k:Int)<(xs.length:Int):=om_;refine tq 0 hH ?_ (hv:=by intro wq _;go_simp;with_reducible rfl)
 try simp only [qq]
 refine tq 1 hH ?_ (hv:=by intro wq _;go_simp;with_reducible rfl)
 try simp only [qq]
 refine tq 2 hH ?_ (v:=.pointer (some ⟨g,k*16,none⟩)) (hv:=by intro wq _;go_simp)
 try simp only [qq]
 refine tq 3 hH ?_ (v:=.agg V.toArray) (hv:=fun u hu=>ex_ldN 31 (.tmp 19) rfl rfl hu.1 underlying31 rfl (by rw [VL.out];kernel_rfl))
 try simp only [qq]
 refine tq 4 hH ?_ (hv:=by intro wq _;go_simp;with_reducible rfl)
 try simp only [qq]
 refine tq 5 hH ?_ (hv:=by intro wq _;go_simp;with_reducible rfl)
 try simp only [qq]
 refine tq 6 hH ?_ (v:=.pointer (some ⟨g',k*16,none⟩)) (hv:=by intro wq _;go_simp)
 try simp only [qq]
 refine tq 7 hH ?_ (v:=.agg V.toArray) (hv:=fun u hu=>ex_ldN 31 (.tmp 23) rfl rfl hu.2 underlying31 rfl (by rw [VL.out];kernel_rfl))
 try simp only [qq]
 refine rq 8 fun K hK=>?_;clear hH;rw [<- HV.out];go_simp;refine (c29 x none 0 none 0 wr.drew (by rw [HL.out];decide) (.inl HL.out) (.inl HL.out)).mono ?_;rintro e y1 ⟨rfl,hb⟩;have HB3:=hdI (bT HB2.out hb);go_simp;refine hK.out _ _ (SS.out _ HB3.out) fun hH=>?_;clear hK K
 try simp only [qq]
 refine tq 9 hH ?_ (v:=.bool false) (hv:=by intro wq _;go_simp)
 try simp only [qq]
 refine wpAnyH_done kr_ ?_ _;clear hH hb;go_wp2;go_roundw
 case rel=>exact ⟨k+1,by go_num,om_,HB3.out⟩
 case measure=>simp [intOf];omega
end Go.Proofs.YthjhakdpikdoeaaGreatDoor
namespace Go.Proofs.YthjhakdpikdoeaaGreatDoor.M
open Proofs.Tryz
open Go.RowKit
theorem dec_small (n:Int) (h0:0<=n) (h1:n<=1000):(dec n).length<=4:=by
 by_cases a:n<10
 · rw [dec_lt n a];simp
 rw [dec_ge n om_,List.length_append];by_cases b:n / 10<10
 · rw [dec_lt _ b];simp
 rw [dec_ge (n / 10) om_,List.length_append];by_cases c:n / 10 / 10<10
 · rw [dec_lt _ c];simp
 rw [dec_ge (n / 10 / 10) om_,List.length_append];have d:n / 10 / 10 / 10<10:=om_;rw [dec_lt _ d];simp
theorem dec_one (n:Int) (h1:n<10):(dec n).length=1:=by rw [dec_lt n h1];rfl
theorem name_len {l:List UInt8} (h:nameOk l=true):1<=l.length/\l.length<=20:=by
 unfold nameOk at h;rw [Bool.and_eq_true,decide_eq_true_eq] at h;exact h.1
theorem vr_len {c:Int} {l:List UInt8} (h:vr c l=true):l.length<=300:=by
 rcases Nat.lt_or_ge 300 l.length with h1 | h1
 · rw [vr_long h1] at h;cases h
 exact h1
theorem quote_len2 (l:List UInt8):(quoteL l).length<=3*l.length+2:=by
 have:=flat_len l;unfold quoteL;simp only [List.length_cons,List.length_append,List.length_nil];omega
theorem lk_text {x:L4} (h:LkOk x):x.nm.data.toList.length<=20/\x.tx.data.toList.length<=300:=by
 have hn:=name_len h.1;refine ⟨hn.2,?_⟩;rcases h.2 with ⟨_,⟨_,h⟩ | ⟨_,h⟩⟩ | ⟨_,h⟩
 · rw [h];exact Nat.zero_le _
 · rw [h];omega
 exact vr_len h
theorem res_len {c:Int} {t:ByteArray} (h0:0<=c) (h1:c<=7) (ht:t.data.toList.length<=300):(resL c t).length<=904:=by
 have a:=dec_one c om_;have b:=quote_len2 t.data.toList;unfold resL;simp only [List.length_append,List.length_cons,List.length_nil];omega
theorem look_len {x:L4} (h:LkOk x):(lookL x).length<=930:=by
 obtain ⟨a,b⟩:=lk_text h;have hc:=lk_code h;have r:=res_len hc.1 hc.2 b;have w4:(wordA x.has).data.toList.length=4:=by cases x.has <;> rfl
 unfold lookL;simp only [List.length_append,List.length_cons,List.length_nil];omega
theorem looks_len' {ls:List L4} (h:LksOk ls):∀ k,k<=ls.length->(looksL (ls.take k)).length<=k*930:=by
 intro k
 induction k with
 | zero=>intro _;simp [looksL]
 | succ k ih=>
  intro hk;rw [looks_snoc ls k om_,List.length_append];have:=look_len (h.2 k om_);have:=ih om_;omega
theorem looks_small {ls:List L4} (h:LksOk ls):(looksL ls).length<=13950:=by
 have:=looks_len' h ls.length lr_;rw [List.take_of_length_le lr_] at this;have:=h.1;omega
theorem okM_len {x:M3} (h:okM x=true):x.nm.data.toList.length<=20/\x.tl.data.toList.length<=20/\x.ar.data.toList.length<=300:=by
 unfold okM at h;simp only [Bool.and_eq_true,decide_eq_true_eq] at h;have e:x.ar.data.toList.length=x.ar.size:=sm_;exact ⟨(name_len h.1.1).2,(name_len h.1.2).2,om_⟩
theorem mom_le {a b:Int} (h:momOk a b=true):(1<=a/\a<=200)/\(0<=b/\b<=1000):=by
 unfold momOk at h;rw [Bool.and_eq_true,decide_eq_true_eq,decide_eq_true_eq] at h;exact h
theorem offer_len {x:G16} (h:OfferOk x):(offerL x).length<=15000:=by
 obtain ⟨_,h1,h2,h3,h4⟩:=h;obtain ⟨⟨p1,p2⟩,p3,p4⟩:=mom_le h2;obtain ⟨m1,m2,m3⟩:=okM_len h3;have a:=dec_small x.to om_ om_;have b:=dec_small x.ep om_ om_;have c:=dec_small x.ed om_ om_;have d:=quote_len2 x.km.ar.data.toList;have e:=looks_small h4;unfold offerL whenL;simp only [List.length_append,List.length_cons,List.length_nil];omega
end Go.Proofs.YthjhakdpikdoeaaGreatDoor.M
namespace Go.Proofs.YthjhakdpikdoeaaGreatDoor
open Proofs.Tryz
open Go.RowKit Go.Maps
open M (BlkAt)
def tokR (v:Value):Option (DataW Value×List MemPlace):=some (.held v,[])
def kS (s:ByteArray):Lit:=.string s.data.toList
def eS (p:ByteArray×Value):Lit×DataW Value:=(kS p.1,.held p.2)
def mapD (l:List (ByteArray×Value)):DataW Value:=.map (l.map eS)
def bef (a b:ByteArray):Bool:=bytesBefore a.data.toList b.data.toList
def insK (x:ByteArray×Value):List (ByteArray×Value)->List (ByteArray×Value)
 | []=>[x]
 | y::r=>if bef x.1 y.1 then x::y::r else y::insK x r
def Asc (l:List (ByteArray×Value)):Prop:=l.Pairwise fun p q=>bef p.1 q.1=true
def getK (l:List (ByteArray×Value)) (k:ByteArray):Option Value:=(l.find? fun p=>decide (p.1=k)).map (·.2)
theorem ba_data {a b:ByteArray} (h:a.data.toList=b.data.toList):a=b:=by
 apply ByteArray.ext;exact Array.toList_inj.1 h
theorem kS_same (a b:ByteArray):(kS a).sameKey (kS b)=decide (a=b):=by
 show (a.data.toList==b.data.toList)=decide (a=b);by_cases h:a=b
 · simp [h]
 rw [decide_eq_false h];exact beq_eq_false_iff_ne.2 (fun e=>h (ba_data e))
theorem mapD_at (l:List (ByteArray×Value)) (k:ByteArray) (z:DataW Value):(mapD l).atKey (kS k) z=match getK l k with | some v=>.held v | none=>z:=by
 unfold mapD DataW.atKey getK;simp only [List.find?_map];have e:((fun p:Lit×DataW Value=>p.1.sameKey (kS k))∘eS)=fun p=>decide (p.1=k):=funext fun p=>kS_same p.1 k;rw [e];cases List.find? (fun p:ByteArray×Value=>decide (p.1=k)) l <;> rfl
theorem mapD_has (l:List (ByteArray×Value)) (k:ByteArray):has (mapD l) (kS k)=(getK l k).isSome:=by
 show (l.map eS).any (fun p=>p.1.sameKey (kS k))=_;rw [List.any_map];have e:((fun p:Lit×DataW Value=>p.1.sameKey (kS k))∘eS)=fun p=>decide (p.1=k):=funext fun p=>kS_same p.1 k;rw [e];unfold getK;rw [Option.isSome_map,Bool.eq_iff_iff];simp
theorem mapD_size (l:List (ByteArray×Value)):size (mapD l)=l.length:=by
 show (l.map eS).length=_;simp
theorem insK_eS (x:ByteArray×Value) (l:List (ByteArray×Value)):(insK x l).map eS=DataW.insert (eS x) (l.map eS):=by
 induction l with
 | nil=>rfl
 | cons y r ih=>
  unfold insK;show _=if (kS x.1).before (kS y.1)=true then _ else _;show List.map eS (if bytesBefore x.1.data.toList y.1.data.toList=true then _ else _)=if bytesBefore x.1.data.toList y.1.data.toList=true then _ else _;split
  · rfl
  simp [ih]
theorem getK_none {l:List (ByteArray×Value)} {k:ByteArray}:getK l k=none↔∀ p∈l,p.1≠k:=by
 unfold getK;simp
theorem insK_perm (x:ByteArray×Value) (l:List (ByteArray×Value)):(insK x l).Perm (x::l):=by
 induction l with
 | nil=>exact List.Perm.refl _
 | cons y r ih=>
  unfold insK;split
  · exact List.Perm.refl _
  exact (ih.cons y).trans (List.Perm.swap x y r)
theorem bef_irr (a:ByteArray):bef a a=false:=WideAt.bytes_irrefl _
theorem bef_tr {a b c:ByteArray} (h:bef a b=true) (h':bef b c=true):bef a c=true:=WideShapes.bytes_trans _ _ _ h h'
theorem bef_tot {a b:ByteArray} (h:a≠b):bef a b=true\/bef b a=true:=WideAt.bytes_total _ _ (fun e=>h (ba_data e))
theorem insK_asc {x:ByteArray×Value} {l:List (ByteArray×Value)} (h:Asc l) (hx:∀ p∈l,p.1≠x.1):Asc (insK x l):=by
 induction l with
 | nil=>exact List.pairwise_singleton _ _
 | cons y r ih=>
  have h':=List.pairwise_cons.1 h;unfold insK;split
  · rename_i hb
    exact List.pairwise_cons.2 ⟨fun p hp=>by
     rcases List.mem_cons.1 hp with rfl | hp
     · exact hb
     exact bef_tr hb (h'.1 p hp),h⟩
  rename_i hb;have hyx:bef y.1 x.1=true:=(bef_tot (hx y (List.mem_cons_self ..))).elim id (fun e=>absurd e hb);refine List.pairwise_cons.2 ⟨fun p hp=>?_,ih h'.2 (fun p hp=>hx p (List.mem_cons_of_mem _ hp))⟩;rcases List.mem_cons.1 ((insK_perm x r).mem_iff.1 hp) with rfl | hp
  · exact hyx
  exact h'.1 p hp
theorem getK_mem {l:List (ByteArray×Value)} {k:ByteArray} {v:Value} (h:getK l k=some v):(k,v)∈l:=by
 unfold getK at h;obtain ⟨p,hp,rfl⟩:=Option.map_eq_some_iff.1 h;have h1:=List.mem_of_find?_eq_some hp;have h2:=List.find?_some hp;simp at h2;rw [<- h2];exact h1
theorem getK_asc {l:List (ByteArray×Value)} (h:Asc l) {k:ByteArray} {v:Value} (hm:(k,v)∈l):getK l k=some v:=by
 induction l with
 | nil=>cases hm
 | cons y r ih=>
  have h':=List.pairwise_cons.1 h;rcases List.mem_cons.1 hm with rfl | hm
  · simp [getK]
  have hne:y.1≠k:=fun e=>by
   have:=h'.1 _ hm;rw [e] at this;simp only [bef_irr] at this;cases this
  have hr:=ih h'.2 hm;unfold getK at hr ⊢;rw [List.find?_cons_of_neg (by simpa using hne)];exact hr
theorem lawS:Keyed prog 9:=string_keyed underlying9
theorem keyS {k:ByteArray} (h:k.size<=maxLen):keyOf prog 9 (.string k)=some (kS k):=Go.WideMaps.keyOf_string_mk underlying9 h
theorem mp_tight {w:World} {k:TypeId} {R:Value->Option (DataW Value×List MemPlace)} {b n:Nat} {D:DataW Value} (h:w.ownsMap prog k R b n D):w.ownsMap prog k R b (size D) D:=by
 obtain ⟨es,clock,hb,F,hs,hD⟩:=h;refine ⟨es,clock,hb,F,?_,hD⟩;rw [hD,size_eq,length_sorted];simp
theorem mp_below {w w':World} {k:TypeId} {R:Value->Option (DataW Value×List MemPlace)} {b n N:Nat} {D:DataW Value} (h:w.ownsMap prog k R b n D) (hb:Below N w w') (hN:b<N):w'.ownsMap prog k R b n D:=by
 obtain ⟨es,clock,hh,r⟩:=h;exact ⟨es,clock,(hb.block b hN).trans hh,r⟩
theorem mp_isMap {w:World} {k:TypeId} {R:Value->Option (DataW Value×List MemPlace)} {b n:Nat} {D:DataW Value} (h:w.ownsMap prog k R b n D):∃ es clock,w.heap[b]?=some (.map es clock):=by
 obtain ⟨es,clock,hh,r⟩:=h;exact ⟨es,clock,hh⟩
theorem tok_inv {v:Value} {d:DataW Value} {ps:List MemPlace} (h:tokR v=some (d,ps)):d=.held v:=by
 unfold tokR at h;simp only [Option.some.injEq,Prod.mk.injEq] at h;exact h.1.symm
theorem look_ok_S {w:World} {b n:Nat} {l:List (ByteArray×Value)} {t e:TypeId} {z:Value} {k:ByteArray} (h:w.ownsMap prog 9 tokR b n (mapD l)) (ht:prog.underlying t=some (.map 9 e)) (hz:(zeroValue e).run prog w=.ok z w) (hk:k.size<=maxLen):
 (Instr.lookup t (.map (some b)) (.string k) true).run prog w=.ok (.tuple #[(getK l k).getD z,.bool (getK l k).isSome]) w:=by
 obtain ⟨v,ps,hr,hv⟩:=h.look_ok lawS ht hz (zd:=.held z) (zp:=[]) rfl (keyS hk);have hd:=tok_inv hv;rw [mapD_at] at hd;rw [mapD_has] at hr;rw [hr]
 cases hg:getK l k with
 | none=>rw [hg] at hd;simp at hd;rw [hd];rfl
 | some u=>rw [hg] at hd;simp at hd;rw [hd];rfl
theorem look_S {w:World} {b n:Nat} {l:List (ByteArray×Value)} {t e:TypeId} {z:Value} {k:ByteArray} (h:w.ownsMap prog 9 tokR b n (mapD l)) (ht:prog.underlying t=some (.map 9 e)) (hz:(zeroValue e).run prog w=.ok z w) (hk:k.size<=maxLen):
 (Instr.lookup t (.map (some b)) (.string k) false).run prog w=.ok ((getK l k).getD z) w:=by
 obtain ⟨v,ps,hr,hv⟩:=h.lookup lawS ht hz (zd:=.held z) (zp:=[]) rfl (keyS hk);have hd:=tok_inv hv;rw [mapD_at] at hd;rw [hr]
 cases hg:getK l k with
 | none=>rw [hg] at hd;simp at hd;rw [hd];rfl
 | some u=>rw [hg] at hd;simp at hd;rw [hd];rfl
theorem up_S {w:World} {b n:Nat} {l:List (ByteArray×Value)} {t e:TypeId} {v:Value} {k:ByteArray} (h:w.ownsMap prog 9 tokR b n (mapD l)) (ht:prog.underlying t=some (.map 9 e)) (hn:n<maxLen) (hk:k.size<=maxLen):
 ∃ w',(Instr.mapUpdate t (.map (some b)) (.string k) v).run prog w=.ok () w'/\w'.ownsMap prog 9 tokR b (n+1) ((mapD l).put (kS k) (.held v))/\w.grownBy w' (some b):=
 h.update lawS ht hn (keyS hk) (d:=.held v) (ps:=[]) rfl
theorem step_upS {ops:Array Oper} {o:Oper} {a:Act} {w:World} {K:Act->World->Prop} {Q:Exit->Act->World->Prop} {E:Prop} (hg:o.guard=none) (t:TypeId) (m x v:Operand) (ho:o.op=Op.mapUpdate t m x v) {b n:Nat} {l:List (ByteArray×Value)} {k:ByteArray} {e:TypeId} {vv:Value}
 (hm:a.eval m=.map (some b)) (hx:a.eval x=.string k) (hv:a.eval v=vv) (h:w.ownsMap prog 9 tokR b n (mapD l)) (ht:prog.underlying t=some (.map 9 e)) (hn:n<maxLen) (hk:k.size<=maxLen) (hdst:o.dst=none)
 (hK:∀ w',w'.ownsMap prog 9 tokR b (n+1) ((mapD l).put (kS k) (.held vv))->w.grownBy w' (some b)->K a w'):
 if Region.wanted o (yielded ops a.tmps)=true then Oper.wp prog o a w K Q else E:=by
 have hw:Region.wanted o (yielded ops a.tmps)=true:=by simp [Region.wanted,hg]
 rw [if_pos hw];obtain ⟨w',hr,h1,h2⟩:=up_S (v:=vv) h ht hn hk;have h3:=hK w' h1 h2;unfold Oper.wp;simp [execOp,ho,hm,hx,hv,hr,Result.andThen]
 first
  | exact h3
  | (simp only [Oper.upon];exact h3)
  | (simp only [Oper.upon,hdst];exact h3)
  | (simp only [Act.put,hdst];exact h3)
def OfT (w:World) (b:Nat) (t:TypeId):Prop:=∃ cur fr,w.heap[b]?=some (.cells cur t fr)
theorem OfT.below {w w':World} {b N:Nat} {t:TypeId} (h:OfT w b t) (hb:Below N w w') (hN:b<N):OfT w' b t:=by
 obtain ⟨cur,fr,h⟩:=h;exact ⟨cur,fr,(hb.block b hN).trans h⟩
theorem cells_ne_map {w:World} {H b:Nat} {v:Value} (h:w.cell? ⟨H,0,none⟩=some v) {es:Array MapEntry} {c:Nat} (hm:w.heap[b]?=some (.map es c)):H≠b:=fun e=>by
 subst e;simp [World.cell?,hm] at h
theorem getK_put {l:List (ByteArray×Value)} (ha:Asc l) (k:ByteArray) (v:Value):Asc (insK (k,v) (l.filter fun p=>!decide (p.1=k)))/\∀ k',getK (insK (k,v) (l.filter fun p=>!decide (p.1=k))) k'=if k'=k then some v else getK l k':=by
 have hf:Asc (l.filter fun p=>!decide (p.1=k)):=ha.filter _;have hA:Asc (insK (k,v) (l.filter fun p=>!decide (p.1=k))):=insK_asc hf (fun p hp=>by have:=(List.mem_filter.1 hp).2;simpa using this);refine ⟨hA,fun k'=>?_⟩;have hmem:∀ p,p∈insK (k,v) (l.filter fun p=>!decide (p.1=k))↔p=(k,v)\/(p∈l/\p.1≠k):=fun p=>by
  rw [(insK_perm _ _).mem_iff,List.mem_cons,List.mem_filter];simp
 by_cases h:k'=k
 · subst h
   rw [if_pos rfl];exact getK_asc hA ((hmem _).2 (.inl rfl))
 rw [if_neg h]
 cases hq:getK l k' with
 | none=>
  exact getK_none.2 (fun p hp=>by
   rcases (hmem p).1 hp with rfl | ⟨hp,_⟩
   · exact fun e=>h e.symm
   exact getK_none.1 hq p hp)
 | some u=>exact getK_asc hA ((hmem _).2 (.inr ⟨getK_mem hq,h⟩))
theorem mapD_put' (l:List (ByteArray×Value)) (k:ByteArray) (v:Value):(mapD l).put (kS k) (.held v)=mapD (insK (k,v) (l.filter fun p=>!decide (p.1=k))):=by
 show DataW.map (DataW.insert (eS (k,v)) ((l.map eS).filter fun p=>!p.1.sameKey (kS k)))=DataW.map ((insK (k,v) _).map eS);rw [insK_eS,List.filter_map]
 congr 2
 congr 1
 apply List.filter_congr;intro p _;show (!(kS p.1).sameKey (kS k))=_;rw [kS_same]
open Go.RowKit
open G (IsPT)
open G.T (F2 f2z treeOk FilesAt)
inductive Ow where
 | kb | mr | mw | pl | rd
 | run (i:Nat)
 | wt (i:Nat)
structure Rk where
 m:M3
 B:Nat
 c905:Nat
 c1851:Nat
 c1809:Nat
 c2:Nat
 c1813:Nat
 b0:Nat
 b1:Nat
 b2:Nat
 b3:Nat
def pt (b:Nat):Value:=.pointer (some ⟨b,0,none⟩)
def Rk.nx (x:Rk):Value:=.func (.func 70) #[] #[pt x.b0,pt x.b1,pt x.b2,pt x.b3]
def rkz:Rk:=⟨m3z,0,0,0,0,0,0,0,0,0,0⟩
inductive Sta where
 | act | que | fin
 | wai (j:Nat)
 deriving DecidableEq
structure Ru where
 k:Rk
 ls:List M.L4
 lv:Value
 v1:Value
 v2:Value
 wv:Value
 st:Bool
 wt:ByteArray
 r:R2
 sta:Sta
 wl:List Nat
def Ru.cells (x:Ru):List Value:=[.string x.k.m.nm,.bool true,.string x.k.m.nm,.string x.k.m.tl,.string x.k.m.ar,x.lv,.int .i64 x.r.code,.string x.r.tx,.string x.wt]
def FPx (x:Ru) (k:Nat):Prop:=k∈[x.k.B,x.k.c905,x.k.c1851,x.k.c1809,x.k.c2,x.k.c1813,x.k.b0,x.k.b1,x.k.b2,x.k.b3]\/x.lv.ownBlock=some k\/x.v1.ownBlock=some k\/x.v2.ownBlock=some k
theorem row_lt {w:World} {base:Nat} {e:TypeId} {size:Nat} {v:Value} {n:Nat} {xs:List Value} (h:w.ownsRow base e size v n xs) {k:Nat} (hk:v.ownBlock=some k):k<w.heap.size:=(h.lt k hk).2
theorem T6At.lt {u:World} {B:Nat} {t:TN} (h:T6At u B t):B<u.heap.size:=(Array.getElem?_eq_some_iff.1 h).1
inductive It where
 | go (i:Nat)
 | re (i:Nat) (r:R2) (b7 b5:Nat)
def It.i:It->Nat
 | .go i=>i
 | .re i _ _ _=>i
def It.own (ow:Nat->Option Ow):It->Prop
 | .go _=>True
 | .re _ _ b7 b5=>ow b7=none/\ow b5=none
structure Gh where
 rs:List Ru
 q:List It
 rv:Value
 ow:Nat->Option Ow
 lr:List (ByteArray×Value)
 lw:List (ByteArray×Value)
structure Fx where
 w0:World
 kb:Nat
 mr:Nat
 mw:Nat
 ta:Option Addr
 tc:Nat
 fs:List F2
 pv:Value
 ms:List M3
def Fx.base (f:Fx):Nat:=f.w0.heap.size
def Gh.ks (g:Gh):List Rk:=g.rs.map (·.k)
def kbCells (f:Fx) (rv:Value):List Value:=[.slice f.ta f.fs.length f.tc,f.pv,.map (some f.mr),.map (some f.mw),rv]
theorem mp_keep {w w':World} {b n:Nat} {D:DataW Value} (h:w.ownsMap prog 9 tokR b n D) (hk:w'.heap[b]?=w.heap[b]?):w'.ownsMap prog 9 tokR b n D:=by
 obtain ⟨es,clock,hh,r⟩:=h;exact ⟨es,clock,hk.trans hh,r⟩
theorem mp_lt {w:World} {b n:Nat} {D:DataW Value} (h:w.ownsMap prog 9 tokR b n D):b<w.heap.size:=by
 obtain ⟨es,clock,hh,r⟩:=h;exact (Array.getElem?_eq_some_iff.1 hh).1
def ext (ow:Nat->Option Ow) (n:Nat) (o:Ow) (k:Nat):Option Ow:=if k<n then ow k else some o
theorem ext_lt {ow:Nat->Option Ow} {n:Nat} {o:Ow} {k:Nat} (h:k<n):ext ow n o k=ow k:=if_pos h
theorem ext_ge {ow:Nat->Option Ow} {n:Nat} {o:Ow} {k:Nat} (h:n<=k):ext ow n o k=some o:=if_neg om_
theorem ks_set {l:List Ru} {i:Nat} {x x':Ru} (h:l[i]?=some x) (e:x'.k=x.k):(l.set i x').map (·.k)=l.map (·.k):=by
 apply List.ext_getElem?;intro j;rw [List.getElem?_map,List.getElem?_map,List.getElem?_set];by_cases hj:i=j
 · subst hj
   have hl:=(List.getElem?_eq_some_iff.1 h).1;rw [if_pos rfl,if_pos hl,h];simp [e]
 rw [if_neg hj]
theorem set_some {l:List Ru} {i j:Nat} {x' y:Ru} (h:(l.set i x')[j]?=some y):(i=j/\y=x')\/(i≠j/\l[j]?=some y):=by
 rw [List.getElem?_set] at h;by_cases hj:i=j
 · rw [if_pos hj] at h
   split at h
   · exact .inl ⟨hj,(Option.some.inj h).symm⟩
   cases h
 rw [if_neg hj] at h;exact .inr ⟨hj,h⟩
theorem set_get {l:List Ru} {i:Nat} {x x':Ru} (h:l[i]?=some x):(l.set i x')[i]?=some x':=by
 rw [List.getElem?_set_self ((List.getElem?_eq_some_iff.1 h).1)]
theorem set_old {l:List Ru} {i j:Nat} {x x' y:Ru} (h:l[i]?=some x) (hy:l[j]?=some y):∃ z,(l.set i x')[j]?=some z/\(z=x'/\i=j\/z=y/\i≠j):=by
 by_cases hj:i=j
 · subst hj;exact ⟨x',set_get h,.inl ⟨rfl,rfl⟩⟩
 exact ⟨y,by rw [List.getElem?_set_ne hj];exact hy,.inr ⟨rfl,hj⟩⟩
theorem Ex.belowN {S:Nat->Prop} {w w':World} {N:Nat} (h:Ex S w w') (hS:∀ k,S k->N<=k) (hN:N<=w.heap.size):Below N w w':=
 ⟨h.os,h.tape,h.output,h.size,fun k hk=>h.block k om_ (fun e=>by have:=hS k e;omega)⟩
theorem app_some {l:List Ru} {j:Nat} {x y:Ru} (h:(l++[x])[j]?=some y):(j=l.length/\y=x)\/(j<l.length/\l[j]?=some y):=by
 rcases Nat.lt_or_ge j l.length with hj | hj
 · rw [List.getElem?_append_left hj] at h
   exact .inr ⟨hj,h⟩
 rw [List.getElem?_append_right hj] at h;have:=(List.getElem?_eq_some_iff.1 h).1;simp at this;have e:j=l.length:=om_;subst e;simp at h;exact .inl ⟨rfl,h.symm⟩
theorem app_old {l:List Ru} {j:Nat} {x y:Ru} (h:l[j]?=some y):(l++[x])[j]?=some y:=by
 rw [List.getElem?_append_left ((List.getElem?_eq_some_iff.1 h).1)];exact h
theorem ks_app {l:List Ru} {x:Ru} {j:Nat} (h:j<l.length):((l++[x]).map (·.k)).getD j rkz=(l.map (·.k)).getD j rkz:=by
 rw [List.map_append,List.getD_eq_getElem?_getD,List.getD_eq_getElem?_getD,List.getElem?_append_left (by simpa using h)]
end Go.Proofs.YthjhakdpikdoeaaGreatDoor
