import Derived.Shelf.SlSortCmp.WholeK
import Derived.Ground.SlsfProg
import Derived.Test.YtdjaajjndfbpmaaGreatDoorDF
set_option linter.unusedVariables false
set_option maxHeartbeats 8000000
set_option maxRecDepth 100000
namespace Go.Proofs
open Go.Shelf
def Tryz.NC:Go.Shelf.Ren:=⟨fun | 6=>48 | 15=>77 | 14=>76 | 28=>114 | 29=>115 | 20=>106 | 21=>107 | 22=>108 | 23=>109 | 24=>110 | 25=>111 | 26=>112 | 27=>113 | 46=>138 | 47=>139 | 48=>140 | 49=>141 | 50=>142 | 57=>161 | n=>n,fun | 22=>28 | 24=>50 | 25=>93 | 3=>3 | 39=>139 | 0=>0 | 53=>182 | 55=>184 | 4=>4 | 46=>176 | 45=>175 | 50=>140 | 5=>5 | 9=>9 | 66=>214 | 70=>218 | 76=>249 | 77=>250 | n=>n,fun | n=>n⟩
theorem Tryz.PN:Go.Proofs.SlLaysF0.n6 Tryz.prog Tryz.NC:={
  mixed:=U2
  f6:=⟨Tryz.f48.name,K3,Tryz.func48.trans (V3 some U2)⟩
  f14:=⟨Tryz.f76.name,K3,Tryz.func76.trans (V3 some U2)⟩
  f15:=Tryz.func77.trans (V3 some U2)
  f20:=⟨Tryz.f106.name,K3,Tryz.func106.trans (V3 some U2)⟩
  f21:=⟨Tryz.f107.name,K3,Tryz.func107.trans (V3 some U2)⟩
  f22:=⟨Tryz.f108.name,K3,Tryz.func108.trans (V3 some U2)⟩
  f23:=⟨Tryz.f109.name,K3,Tryz.func109.trans (V3 some U2)⟩
  f24:=⟨Tryz.f110.name,K3,Tryz.func110.trans (V3 some U2)⟩
  f25:=⟨Tryz.f111.name,K3,Tryz.func111.trans (V3 some U2)⟩
  f26:=⟨Tryz.f112.name,K3,Tryz.func112.trans (V3 some U2)⟩
  f27:=⟨Tryz.f113.name,K3,Tryz.func113.trans (V3 some U2)⟩
  f28:=Tryz.func114.trans (V3 some U2)
  f29:=Tryz.func115.trans (V3 some U2)
  f46:=⟨Tryz.f138.name,K3,Tryz.func138.trans (V3 some U2)⟩
  f47:=Tryz.func139.trans (V3 some U2)
  f48:=Tryz.func140.trans (V3 some U2)
  f49:=⟨Tryz.f141.name,K3,Tryz.func141.trans (V3 some U2)⟩
  f50:=⟨Tryz.f142.name,K3,Tryz.func142.trans (V3 some U2)⟩
  f57:=⟨Tryz.f161.name,K3,Tryz.func161.trans (V3 some U2)⟩
  t0:=Tryz.underlying0
  a0:=Tryz.isAgg0
  z0:=Tryz.sizeOf0
  v0:=Tryz.zeroValue0
  t3:=Tryz.underlying3
  a3:=Tryz.isAgg3
  z3:=Tryz.sizeOf3
  v3:=Tryz.zeroValue3
  t4:=Tryz.underlying4
  a4:=Tryz.isAgg4
  z4:=Tryz.sizeOf4
  v4:=Tryz.zeroValue4
  t5:=Tryz.underlying5
  a5:=Tryz.isAgg5
  z5:=Tryz.sizeOf5
  v5:=Tryz.zeroValue5
  t9:=Tryz.underlying9
  a9:=Tryz.isAgg9
  z9:=Tryz.sizeOf9
  v9:=Tryz.zeroValue9
  t22:=Tryz.underlying28
  a22:=Tryz.isAgg28
  z22:=Tryz.sizeOf28
  v22:=Tryz.zeroValue28
  t25:=Tryz.underlying93
  a25:=Tryz.isAgg93
  z25:=Tryz.sizeOf93
  v25:=Tryz.zeroValue93
  t39:=Tryz.underlying139
  a39:=Tryz.isAgg139
  z39:=Tryz.sizeOf139
  v39:=Tryz.zeroValue139
  t45:=Tryz.underlying175
  a45:=Tryz.isAgg175
  z45:=Tryz.sizeOf175
  v45:=Tryz.zeroValue175
  t46:=Tryz.underlying176
  a46:=Tryz.isAgg176
  z46:=Tryz.sizeOf176
  v46:=Tryz.zeroValue176
  t50:=Tryz.underlying140
  a50:=Tryz.isAgg140
  z50:=Tryz.sizeOf140
  v50:=Tryz.zeroValue140
  t53:=Tryz.underlying182
  a53:=Tryz.isAgg182
  z53:=Tryz.sizeOf182
  v53:=Tryz.zeroValue182
  t55:=Tryz.underlying184
  a55:=Tryz.isAgg184
  z55:=Tryz.sizeOf184
  v55:=Tryz.zeroValue184
  t66:=Tryz.underlying214
  a66:=Tryz.isAgg214
  z66:=Tryz.sizeOf214
  v66:=Tryz.zeroValue214
  t70:=Tryz.underlying218
  a70:=Tryz.isAgg218
  z70:=Tryz.sizeOf218
  v70:=Tryz.zeroValue218
  t76:=Tryz.underlying249
  a76:=Tryz.isAgg249
  z76:=Tryz.sizeOf249
  v76:=Tryz.zeroValue249
  t77:=Tryz.underlying250
  a77:=Tryz.isAgg250
  z77:=Tryz.sizeOf250
  v77:=Tryz.zeroValue250 }
end Go.Proofs
namespace Go.Proofs.YtdjaajjndfbpmaaGreatDoor
open Proofs.Tryz
open Go.RowKit
open G.T (lt Ij Fe BM F_ N_)
def Ou:Value->Bool
 | .slice _ _ _=>true
 | _=>false
theorem Em {v:Value} (h:Ou v=true):∃ a n c,v=.slice a n c:=by
 cases v
 all_goals first | exact ⟨_,_,_,rfl⟩ | cases h
def kz (x:De):De:=if Ou x.lv=true then x else Pg
theorem Gz (x:De):∃ a n c,(kz x).lv=.slice a n c:=by
 unfold kz;split
 · exact Em (by assumption)
 exact ⟨_,_,_,rfl⟩
theorem Rz {x:De} (h:Ou x.lv=true):kz x=x:=Y3 h
def yz (x:De):List Value:=(kz x).vs
def jN (x y:De):Int:=Ij (kz x).d.nm (kz y).d.nm
theorem c49 (x y:De) (hx:∃ a n c,x.lv=.slice a n c) (g:∃ a n c,y.lv=.slice a n c) (w:World):Calls prog 49 #[.agg x.vs.toArray,.agg y.vs.toArray] w fun e w'=>e=.returned (.int .i64 (Ij x.d.nm y.d.nm))/\∃ os,w'=Sort.grow w os:=by
 obtain ⟨⟨n,md,⟨m1,m2,m3⟩,ls,⟨rc,rt⟩,wt⟩,lv⟩:=x;obtain ⟨⟨b,md',⟨m1',m2',m3'⟩,ls',⟨rc',rt'⟩,wt'⟩,PR⟩:=y;obtain ⟨a,k,c,rfl⟩:=hx;obtain ⟨a',k',c',rfl⟩:=g;have f:=fun u=>BM n b u;dsimp only;generalize Ij n b=r at*;go_enter func49,ntmps49;simp only [De.vs]
 go_wp2_with fail
 refine (f _).mono ?_;rintro e w1 ⟨rfl,hw⟩;clear f;go_wp2;go_ret;exact ⟨rfl,_,by rw [Sort.alloc_eq_grow,Sort.alloc_eq_grow,Sort.grow_grow]⟩
theorem cmpL [Inhabited De] (blk a size:Nat) (w:World):CmpLays prog 49 #[] yz 8 jN blk a size w:=fun _ _ _ _ x y=>(c49 (kz x) (kz y) (Gz x) (Gz y) _).mono fun _ _ ⟨b,os,hw⟩=>⟨b,0,os,by rw [hw];rfl⟩
theorem cO (x y:De):ltOf jN x y=lt (kz x).d.nm (kz y).d.nm:=by
 unfold ltOf jN;cases h:lt (kz x).d.nm (kz y).d.nm
 · exact Oh fun c=>by rw [(Fe _ _).1 c] at h;cases h
 exact Xm ((Fe _ _).2 h)
theorem zO:Sort.SWO (ltOf jN) where
 irrefl x:=by rw [cO];exact N_ _
 trans x y z h k:=by rw [cO] at *;exact F_ h k
 ntrans x y z h k:=by
  rw [cO] at*;cases hc:lt (kz x).d.nm (kz z).d.nm
  · rfl
  by_cases e:(kz y).d.nm=(kz z).d.nm
  · rw [e,hc] at h;cases h
  rw [F_ hc (eu e k)] at h;cases h
theorem PL (x:De):∀ v∈yz x,v.oneCell'=true:=by
 obtain ⟨a,n,c,e⟩:=Gz x;exact Uu _ (by rw [e];rfl)
theorem ZB [Inhabited De] (xs:List De) (h:∀ x∈xs,Ou x.lv=true) (j:Nat) (b:j<xs.length*8):(Zo xs)[j]?=some ((Sort.flatK yz 8 xs.toArray)[j]!):=by
 have h1:j / 8<xs.length:=O0;have h2:j % 8<8:=Gv _ K3;rw [Sort.get_flatK _ _ _ _ (by simpa using b)];have h3:=jv xs (j / 8) (j % 8) h1 h2;rw [show j / 8*8+j % 8=j by omega] at h3;rw [h3];have d:xs.toArray[j / 8]! =xs[j / 8]:=by simp [h1]
 have c:xs.getD (j / 8) Pg=xs[j / 8]:=by simp [List.getD,F8 h1]
 rw [d,c,yz,Rz (h _ (Ea h1))];have a:j % 8<(xs[j / 8]).vs.length:=by rw [Wi];exact h2
 rw [F8 a];exact V3 some (getElem!_pos (xs[j / 8]).vs (j % 8) a).symm
theorem AQ (base g cap:Nat) (xs:List De) (w:World) (m:w.ownsRow base 50 8 (.slice (some ⟨g,0,none⟩) xs.length cap) xs.length (Zo xs)) (r:∀ x∈xs,Ou x.lv=true) (hl:xs.length<=1000000):Calls prog 48 #[.slice (some ⟨g,0,none⟩) xs.length cap,.func (.func 49) #[] #[]] w fun e w'=>e=.returned (.tuple #[])/\∃ ys,ys.Perm xs/\(ys.Pairwise fun a b=>lt b.d.nm a.d.nm=false)/\w'.ownsRow base 50 8 (.slice (some ⟨g,0,none⟩) xs.length cap) ys.length (Zo ys)/\w.grownBy w' (some g):=by
 haveI:Inhabited De:=⟨Pg⟩
 have Q:∀ args w,(callFunc 49 args).run prog w=.ok (.enter 49 args) w:=enters_of func49 U2 rfl;obtain ⟨hbg,a3J,v⟩:=Y2 m (k:=g) rfl;have P:Sort.HoldsK yz 8 w g 0 xs.toArray:=fun j c=>by
  have J:j<xs.length*8:=by simpa using c
  have h1:=m.cells rfl j _ (ZB xs r j J);refine ⟨by rw [R7];rw [M.Uv,R7] at h1;exact h1,?_⟩;simp [World.frozen?,v]
 have q:=AnyQ.slices_SortFunc Tryz.PN 8 (fun _=>U2) (fun _=>U2) yz (fun _=>rfl) PL jN zO 49 #[] g 0 cap xs.toArray w Q (cmpL g 0 _ w) P (Q4 v) J4;change Calls prog 48 _ _ _ at q;rw [Br] at q;refine q.mono ?_;rintro e w' ⟨rfl,d',n,os,⟨h,_,s⟩,B,rfl⟩;have h:d'.size=xs.length:=by simpa using h
 have o:d'.toList.Perm xs:=by
  have:(d'.extract 0 xs.length).toList=d'.toList:=by rw [<- h];simp
  rw [this] at s;simpa using s
 have l:∀ y∈d'.toList,Ou y.lv=true:=fun y A=>r y (o.mem_iff.1 A);have t:d'.toList.length=xs.length:=o.length_eq;refine ⟨rfl,d'.toList,o,?_,?_,rfl,rfl,rfl,?_,?_⟩
 · rw [gu]
   intro i j p c K;have:=B i j (I5 _) K O0;rw [cO] at this;have f:d'[i]! =d'.toList[i]:=by simp at p;simp [p]
   have z:d'[j]! =d'.toList[j]:=by simp at c;simp [c]
   rw [f,z,Rz (l _ (Ea p)),Rz (l _ (Ea c))] at this;exact this
 · rcases m.2 with ⟨hv,_⟩ | ⟨g',cap',cur,hv,O,u,E,N,L,htk⟩
   · cases hv
   injection hv with f z e3;subst e3;obtain rfl:g=g':=by injection f with f;injection f
   refine ⟨zB _,.inr ⟨g,cap,Sort.putCells id 0 (Sort.flatK yz 8 d') cur,by rw [t],O,?_,O0,N,?_,?_⟩⟩
   · have F:=Q4 u
     simp only [sortWorldK,Sort.grow,Sort.putRowK,Sort.putRow,Sort.mapBlock,Sort.ahead];rw [BG (by simpa using F),Array.getElem?_modify,Y3 rfl,u];rfl
   · simp [Sort.putCells,L]
   apply vk;intro j;rw [t];by_cases c:j<xs.length*8
   · rw [Rt c,ZB d'.toList l j O0]
     have I:j<cur.size:=by have:=Nat.mul_le_mul_right 8 E;omega
     have C:j<d'.size*8:=by rw [h];exact c
     simp [Sort.putCells,I,C]
   rw [Xe (by rw [Jk];omega),Xe (by rw [zB];omega)]
 · simp only [sortWorldK,Sort.size_grow,Sort.putRowK,Sort.putRow,Sort.mapBlock,Sort.ahead,Array.size_modify]
   omega
 intro k H D;simp only [sortWorldK,Sort.grow,Sort.putRowK,Sort.putRow,Sort.mapBlock,Sort.ahead];rw [BG (by simpa using H),Array.getElem?_modify,R3 (fun e=>D (V3 some e.symm))]
def BP (u:World) (b j:Nat) (x:M.L4):Prop:=u.cell? ⟨b,j,none⟩=some (.bool x.has)/\u.cell? ⟨b,j+1,none⟩=some (.string x.nm)/\u.cell? ⟨b,j+2,none⟩=some (.int .i64 x.cd)/\u.cell? ⟨b,j+3,none⟩=some (.string x.tx)
theorem c23 (a:Option Addr) (cap:Nat) (D:Option Addr) (I:Nat) (L:List M.L4) (w:World) (hl:L.length<=15) (C:M.Ac w a L) (B:M.Ac w D L):
 Calls prog 23 #[.slice a L.length cap,.slice D L.length I] w fun e w'=>e=.returned (.bool true)/\Below w.heap.size w w':=by
 have N:=Q0 C;have K:=Q0 B;have hl':(L.length:Int)<=15:=O0;clear C B;go_enter func23,ntmps23
 go_wp2_with fail
 go_loopw [5] (fun r wr=>∃ k:Nat,r=.int .i64 k/\k<=L.length/\Hid (Below w.heap.size w wr)) (fun r _=>L.length - (intOf r).toNat)
 case atStart=>exact ⟨0,rfl,I5 _,F4 _ _⟩
 obtain ⟨k,rfl,hk,E⟩:=hrel;by_cases A:k<L.length;rotate_left
 · obtain rfl:k=L.length:=O0
   go_wp2;go_ret;exact ⟨rfl,E.out⟩
 have m:=Q0 E.out.drew;obtain ⟨b,f,H,hb,z,y,t,s⟩:=Ec N.out m.out A;obtain ⟨g,d,F,hb',q,p,o,n⟩:=Ec K.out m.out A;subst H F;generalize L.getD k M.Ga=x at*;obtain ⟨j,i,l,h⟩:=x;have J:Hid (BP wr.drew b (f+k*4) ⟨j,i,l,h⟩/\BP wr.drew g (d+k*4) ⟨j,i,l,h⟩):=⟨⟨z,y,t,s⟩,q,p,o,n⟩;clear z y t s q p o n
 go_upto_region 6 with fail
 refine F7 (S:=fun u=>(u.cell? ⟨b,f+k*4,none⟩=some (.bool j)/\u.cell? ⟨b,f+k*4+1,none⟩=some (.string i)/\u.cell? ⟨b,f+k*4+2,none⟩=some (.int .i64 l)/\u.cell? ⟨b,f+k*4+3,none⟩=some (.string h))/\u.cell? ⟨g,d+k*4,none⟩=some (.bool j)/\u.cell? ⟨g,d+k*4+1,none⟩=some (.string i)/\u.cell? ⟨g,d+k*4+2,none⟩=some (.int .i64 l)/\u.cell? ⟨g,d+k*4+3,none⟩=some (.string h)) U2 J.out fun c=>?_;refine tq 0 c ?_;refine tq 1 c ?_;refine tq 2 c ?_;refine tq 3 c ?_;refine tq 4 c ?_;refine tq 5 c ?_;refine tq 6 c ?_;refine tq 7 c ?_;refine tq (v:=.bool false) 8 c ?_ (hv:=by intro u hu;simp [go_sem])
 try simp only [qq]
 refine a_ ?_;clear c;go_wp2;go_roundw
 case rel=>exact ⟨k+1,by go_num,O0,m.out⟩
 case measure=>simp [intOf];omega
theorem Fb.keep {base b0 b1 b2 b3 B:Nat} {u u':World} {nm tl ar:ByteArray} {s:RS} {v1 v2:Value} (h:Fb base b0 b1 b2 b3 u nm tl ar s v1 v2) {x:Array Value} (hB:u.heap[B]?=some (.cells x 147 (0,0))) (e:∀ k,k≠B->u'.heap[k]?=u.heap[k]?):Fb base b0 b1 b2 b3 u' nm tl ar s v1 v2:=by
 have a:∀ (k:Nat) (x:Array Value) (t:TypeId),u.heap[k]?=some (.cells x t (0,0))->t≠147->u'.heap[k]?=some (.cells x t (0,0)):=fun k x t h1 d=>(e k (J6 h1 hB d)).trans h1;refine ⟨h.AU,h.yS,h.DU,h.QU,a _ _ _ h.h0 K3,a _ _ _ h.h1 K3,a _ _ _ h.h2 K3,a _ _ _ h.h3 K3,?_,?_⟩
 · refine Z0 h.o1 fun k c=>?_
   obtain ⟨_,cur,b⟩:=Y2 h.o1 c;rw [a _ _ _ b K3,b]
 refine Z0 h.o2 fun k c=>?_;obtain ⟨_,cur,b⟩:=Y2 h.o2 c;rw [a _ _ _ b K3,b]
open G (H6 jf)
open G.T (F2 P6 X3 F3)
variable {E E':Env} {n n0:ByteArray} {d d':Dd} {ds:List Dd} {fs:List F2} {ms:List M3}
def Zv (E:Env) (d:Dd):Prop:=(d.md=false/\E.pl d.nm=some d.r)\/(d.md=true/\d.m∈E.ms/\d.m.nm=d.nm/\∀ x∈d.ls,x.has=true->(x.cd=0↔(E.sn x.nm).code=0))
theorem zl (h:Xc E n d) (a:d.md=true):d.m∈E.ms/\d.m.nm=n/\I9 E d.m d.ls/\(∀ ls,I9 E d.m ls->ls <+:d.ls)/\d=⟨n,true,d.m,d.ls,if (tn d.m d.ls).over then Pj (tn d.m d.ls) else ⟨6,⟨#[]⟩⟩,if (tn d.m d.ls).over then ⟨#[]⟩ else (tn d.m d.ls).name⟩:=by
 rcases h with ⟨r,_,rfl⟩ | ⟨m,L,h1,h2,h3,b,rfl⟩
 · cases a
 exact ⟨h1,h2,h3,b,rfl⟩
theorem Ky (h:Xc E n d) (a:d.md=false):E.pl n=some d.r/\d=⟨n,false,N7,[],d.r,⟨#[]⟩⟩:=by
 rcases h with ⟨r,h1,rfl⟩ | ⟨m,L,h1,h2,h3,h4,rfl⟩
 · exact ⟨h1,rfl⟩
 cases a
theorem ML (h:Xc E d.nm d):Zv E d:=by
 cases hm:d.md
 · exact .inl ⟨hm,(Ky h hm).1⟩
 obtain ⟨h1,h2,h3,_,_⟩:=zl h hm;refine .inr ⟨hm,h1,h2,fun x hx c=>?_⟩;obtain ⟨a,b,e⟩:=List.append_of_mem hx;rw [e] at h3;obtain ⟨_,r,rfl,f⟩:=Gg h3;rcases f with ⟨_,rfl⟩ | ⟨k,_⟩
 · exact Iff.rfl
 have c:(tn d.m a).has=true:=c;rw [k] at c;cases c
theorem qC (h:Xc E n d) (a:d.md=true) {ls:List M.L4} {x:M.L4} (k:I9 E d.m (ls++[x])):x∈d.ls:=
 ((zl h a).2.2.2.1 _ k).subset X0
theorem nx (hE:Y7 E) (a:Wh E n0 ds) (i:d∈ds) (n:d.md=true) {ls:List M.L4} (h:I9 E d.m ls) (ho:(tn d.m ls).over=false) (p:(tn d.m ls).has=false):∃ d'∈ds,d'.nm=(tn d.m ls).name/\Xc E d'.nm d':=by
 have j:=a.ok d i;obtain ⟨h1,h2,h3,s,q⟩:=zl j n;have o:(tn d.m ls).name∈qa d.ls d.wt:=by
  obtain ⟨t,b⟩:=s _ h
  cases t with
  | nil=>
   have e:d.ls=ls:=by rw [<- b];simp
   have hw:d.wt=(tn d.m ls).name:=by rw [q];simp only [e,ho];rfl
   have g:=((S_ hE h (hE.ms _ h1)).name ho).1;unfold qa;rw [hw,R3 (fun c=>by rw [c] at g;exact absurd g K3)];simp
  | cons y t=>
   rw [<- b] at h3;obtain ⟨_,r,rfl,_⟩:=Gg h3;unfold qa;refine P8.2 (.inl (D9.2 ⟨_,xm.2 ⟨by rw [<- b];simp;exact .inr (.inl rfl),?_⟩,rfl⟩));simp [oq,p]
 have l:Js E n0 (tn d.m ls).name:=.step ((a.mem _).1 (D9.2 ⟨d,i,rfl⟩)) ⟨d,j,o⟩;obtain ⟨d',f,k⟩:=D9.1 ((a.mem _).2 l);exact ⟨d',f,k,a.ok d' f⟩
theorem gK (hE:Y7 E) (c:Y7 E') (a:J2 n.data.toList=true) (h:(E.sn n).code=0↔(E'.sn n).code=0):E'.sn n=E.sn n:=by
 rcases hE.sn n a with e | e <;> rcases c.sn n a with b | b <;> rw [e,b] at h ⊢
 · have:=h.1 rfl;cases this
 have:=h.2 rfl;cases this
theorem aj (b:Y7 E') (h:Zv E' d) (a:d.md=true):d.m∈E'.ms/\d.m.nm=d.nm/\E'.pl d.nm=none/\∀ x∈d.ls,x.has=true->(x.cd=0↔(E'.sn x.nm).code=0):=by
 rcases h with ⟨c,_⟩ | ⟨_,h1,h2,h3⟩
 · rw [a] at c;cases c
 exact ⟨h1,h2,(b.made _).2 ⟨_,h1,h2⟩,h3⟩
theorem xC (h:Zv E' d) (a:d.md=false):E'.pl d.nm=some d.r:=by
 rcases h with ⟨_,h⟩ | ⟨c,_⟩
 · exact h
 rw [a] at c;cases c
theorem dL (hE:Y7 E) (n:Y7 E') (l:Wh E n0 ds) (k:∀ d∈ds,Zv E' d) {m:M3} {L:List M.L4} (h:I9 E m L):∀ d∈ds,d.md=true->d.m=m->I9 E' m L:=by
 induction h with
 | nil m=>exact fun _ _ _ _=>.nil _
 | seen h1 h2 h3 ih=>
  rintro d b a rfl;have o:=l.ok d b;have hx:=(aj n (k d b) a).2.2.2 _ (qC o a (h1.seen h2 h3)) h3;rw [<- gK hE n ((S_ hE h1 (hE.ms _ (zl o a).1)).name h2).1 hx];exact (ih d b a rfl).seen h2 h3
 | plain h1 h2 h3 h4 ih=>
  rintro d b a rfl;obtain ⟨d',g,c,f⟩:=nx hE l b a h1 h2 h3;refine (ih d b a rfl).plain h2 h3 ?_;cases hm':d'.md
  · have:=(Ky f hm').1
    rw [c,h4] at this;rw [j6 this,<- c];exact xC (k d' g) hm'
  obtain ⟨j,i,_⟩:=zl f hm';have:=(hE.made _).2 ⟨_,j,i⟩;rw [c,h4] at this;cases this
 | made h1 h2 h3 h4 h5 h6 h7 h8 ih ih'=>
  rintro d b a rfl;obtain ⟨d',g,c,f⟩:=nx hE l b a h1 h2 h3;cases hm':d'.md
  · have:=(Ky f hm').1
    rw [c,h4] at this;cases this
  obtain ⟨j,i,_⟩:=zl f hm';have e:=hE.one _ _ j h5 (i.trans (c.trans h6.symm));obtain ⟨q,p2,p,_⟩:=aj n (k d' g) hm';refine (ih d b a rfl).made h2 h3 (c▸p) (e▸q) h6 (ih' d' g hm' e) h8
theorem EK (hE:Y7 E) (i:Y7 E') (l:Wh E n0 ds) (g:∀ d∈ds,Zv E' d) {m:M3} {L:List M.L4} (h:I9 E' m L):∀ d∈ds,d.md=true->d.m=m->I9 E m L:=by
 induction h with
 | nil m=>exact fun _ _ _ _=>.nil _
 | seen h1 h2 h3 ih=>
  rintro d b a rfl;have o:=l.ok d b;have k:=ih d b a rfl;have hx:=(aj i (g d b) a).2.2.2 _ (qC o a (k.seen h2 h3)) h3;rw [gK hE i ((S_ hE k (hE.ms _ (zl o a).1)).name h2).1 hx];exact k.seen h2 h3
 | plain h1 h2 h3 h4 ih=>
  rintro d b a rfl;have k:=ih d b a rfl;obtain ⟨d',f,c,j⟩:=nx hE l b a k h2 h3;refine k.plain h2 h3 ?_;cases hm':d'.md
  · have:=xC (g d' f) hm'
    rw [c,h4] at this;rw [j6 this,<- c];exact (Ky j hm').1
  have:=(aj i (g d' f) hm').2.2.1;rw [c,h4] at this;cases this
 | made h1 h2 h3 h4 h5 h6 h7 h8 ih ih'=>
  rintro d b a rfl;have k:=ih d b a rfl;obtain ⟨d',f,c,j⟩:=nx hE l b a k h2 h3;cases hm':d'.md
  · have:=xC (g d' f) hm'
    rw [c,h4] at this;cases this
  obtain ⟨n,p,_⟩:=zl j hm';obtain ⟨r,q,p3,_⟩:=aj i (g d' f) hm';have e:=i.one _ _ r h5 (q.trans (c.trans h6.symm));exact k.made h2 h3 (c▸(hE.made _).2 ⟨_,n,p⟩) (e▸n) h6 (ih' d' f hm' e) h8
theorem PM (hE:Y7 E) (f:Y7 E') (c:Wh E n0 ds) (b:∀ d∈ds,Zv E' d) (a:d∈ds):Xc E' d.nm d:=by
 have g:=c.ok d a;cases hm:d.md
 · obtain ⟨_,e⟩:=Ky g hm
   exact .inl ⟨d.r,xC (b d a) hm,e⟩
 obtain ⟨h1,h2,h3,l,j⟩:=zl g hm;obtain ⟨i,h,_,_⟩:=aj f (b d a) hm;exact .inr ⟨d.m,d.ls,i,h,dL hE f c b h3 d a hm rfl,fun ls k=>l _ (EK hE f c b k d a hm rfl),j⟩
end Go.Proofs.YtdjaajjndfbpmaaGreatDoor
