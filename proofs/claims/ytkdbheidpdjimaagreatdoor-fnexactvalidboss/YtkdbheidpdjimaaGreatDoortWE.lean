import Derived.Test.YtkdbheidpdjimaaGreatDoorS1
import Derived.Test.YtkdbheidpdjimaaGreatDoortX1
set_option linter.unusedVariables false
set_option maxHeartbeats 8000000
set_option maxRecDepth 100000
namespace Go.Proofs.YtkdbheidpdjimaaGreatDoor
open Proofs.Tryz Go.RowKit
theorem a1k (v:Value) (w:World):(Go.method 549 200 v "loop.example/kiln/impl.isSound").run prog w=.ok (333,v) w:=J3
theorem a1U (v:Value) (w:World):(Go.method 549 201 v "loop.example/kiln/impl.isSound").run prog w=.ok (336,v) w:=J3
theorem a2o (v:Value) (w:World):(Go.method 549 202 v "loop.example/kiln/impl.isSound").run prog w=.ok (338,v) w:=J3
theorem a1Q (v:Value) (w:World):(Go.method 549 204 v "loop.example/kiln/impl.isSound").run prog w=.ok (340,v) w:=J3
theorem a1P (v:Value) (w:World):(Go.method 549 207 v "loop.example/kiln/impl.isSound").run prog w=.ok (342,v) w:=J3
theorem bH (n:Int):U8 (r_ n)↔(1<=n/\n<=200):=by
 constructor
 · intro h;obtain ⟨m,hm,e⟩:=Js h rfl;have:n=m:=P5 p_.ep e;rw [this];exact hm
 · intro h;exact .inl ⟨n,h,rfl⟩
theorem QJ (a b:BY):U8 (Vb a b)↔(o6 a.data.toList=true/\b.size<=300):=by
 constructor
 · intro h;obtain ⟨d,b',hm,e⟩:=Yw h rfl;have e1:a=d:=P5 p_.fn e;have c:b=b':=P5 p_.ft e;rw [e1,c];exact hm
 · intro h;exact .inr (.inl ⟨a,b,h,rfl⟩)
theorem VJ (a:BY):U8 (Xb a)↔o6 a.data.toList=true:=by
 constructor
 · intro h;obtain ⟨b,hm,e⟩:=jr h rfl;have e1:a=b:=P5 p_.fn e;rw [e1];exact hm
 · intro h;exact .inr (.inr (.inl ⟨a,h,rfl⟩))
theorem QO (m:M3) (ls:List L4) (c:Int) (t:BY):U8 (Ag m ls c t)↔lg m ls c t:=by
 constructor
 · intro h;obtain ⟨m',b,i,a,hm,e⟩:=zA h rfl;have e1:m=m':=P5 p_.km e;have g:ls=b:=P5 p_.ls e;have f:c=i:=P5 p_.cd e;have d:t=a:=P5 p_.tx e;rw [e1,g,f,d];exact hm
 · intro h;exact .inr (.inr (.inr (.inl ⟨m,ls,c,t,h,rfl⟩)))
def EP (l:List UInt8) (w w':World) (e:Ending):Prop:=(e=.returned (.tuple #[.nilIface,.bool false])/\∀ z,RE l z false)\/(∃ (x:p_) (ai:OA) (ci:Nat),e=.returned (.tuple #[zU x ai ci,.bool true])/\RE l x true/\ShE x/\x.le 1048576/\Eg w' w.heap.size ai x.ls)
theorem c69 (s:BY) (w:World) (hs:s.size<=1048576) (P:Tc w):
 Calls prog 69 #[.string s] w fun e w'=>EP s.data.toList w w' e/\Bw w w':=by
 have hsl:s.data.toList.length=s.size:=I4;by_cases h16:s.size<=16000
 · have hd:decide (16000<(s.size:Int))=false:=U7;go_enter func69,ntmps69
   go_wp2_with fail
   refine (a1v s _ O0 P).mono ?_;rintro e R ⟨hr,F⟩;rcases hr with ⟨D,rfl⟩ | ⟨D,g,rfl,hg0,I⟩
   · have d:Hid (∀ z,RE s.data.toList z false):=fun z=>yX D z;clear D;go_wp2;go_ret2;exact ⟨.inl ⟨rfl,d.out⟩,F⟩
   · have N:=Qi 10 s.data.toList.dropLast;have J:s.data.toList.dropLast.length<=16000:=by rw [List.length_dropLast];omega
     have K:=Oe 10 s.data.toList.dropLast;have H:=fun x ok hr=>tV (l:=s.data.toList) (x:=x) (ok:=ok) D hr;generalize L8 10 s.data.toList.dropLast=L at*;obtain ⟨f,b,rfl⟩:∃ f b,L=f::b:=by
      cases L with
      | nil=>simp at N
      | cons f b=>exact ⟨f,b,rfl⟩
     have W:f.length<=16000:=Q7 (K 0) J;have X:∀ i,i<b.length->(b.getD i []).length<=16000:=fun i _=>Q7 (K (i+1)) J;have Y:b.length<=16001:=by simp at N;omega
     have U:Ri R g 0 (f::b):=⟨I.1,fun i V=>by rw [E8];exact I.2 i V⟩;have S:=G9 P F;clear D K N J I;simp only [A_]
     go_wp2_with fail
     refine (a1j f b g _ W S Y U X).mono ?_;rintro e w2 ⟨hr,Z⟩;have B:=G7 F Z;rcases hr with ⟨v,rfl,O⟩ | ⟨x,u,q,rfl,h1,h2,p,Q⟩
     · have d:=U0 ((H Ii false (O _)).2 (fun h=>by cases h.1));clear O H;go_wp2;go_ret2;exact ⟨.inl ⟨rfl,d.out⟩,B⟩
     · have hR:=H x true h1;have C:=Q.mono F.size;clear H h1 Q;rcases h2 with ⟨n,rfl⟩ | ⟨a,c,rfl⟩ | ⟨a,rfl⟩ | ⟨m,ls,c,t,rfl⟩ | rfl
       · have A:=a1k;have he:zU (r_ n) u q=.iface 200 (vI n):=rfl;rw [he]
         go_wp2_with fail
         refine (a2r n _).mono ?_;rintro e E ⟨⟨r,rfl,j⟩,k⟩;have o:=G7 B k;have y:=Eg.bel C k;clear A he;cases r
         · have d:=U0 (hR.2 (fun h=>absurd (j.2 ((bH n).1 h.2)) O6));clear hR j;go_wp2;go_ret2;exact ⟨.inl ⟨rfl,d.out⟩,o⟩
         · have d:=U0 (hR.1 (by first | rfl | trivial) ((bH n).2 (j.1 rfl)));clear hR j;go_wp2;go_ret2;exact ⟨.inr ⟨r_ n,u,q,rfl,d.out,.inl ⟨_,rfl⟩,p,y⟩,o⟩
       · have A:=a1U;have he:zU (Vb a c) u q=.iface 201 (.agg #[vS a,vS c]):=rfl;rw [he]
         go_wp2_with fail
         refine (a0G a c _ (Q7 p.1 O0) (Q7 p.2.1 O0)).mono ?_;rintro e E ⟨⟨r,rfl,j⟩,k⟩;have o:=G7 B k;have y:=Eg.bel C k;clear A he;cases r
         · have d:=U0 (hR.2 (fun h=>absurd (j.2 ((QJ a c).1 h.2)) O6));clear hR j;go_wp2;go_ret2;exact ⟨.inl ⟨rfl,d.out⟩,o⟩
         · have d:=U0 (hR.1 (by first | rfl | trivial) ((QJ a c).2 (j.1 rfl)));clear hR j;go_wp2;go_ret2;exact ⟨.inr ⟨Vb a c,u,q,rfl,d.out,.inr (.inl ⟨_,_,rfl⟩),p,y⟩,o⟩
       · have A:=a2o;have he:zU (Xb a) u q=.iface 202 (vS a):=rfl;rw [he]
         go_wp2_with fail
         refine (a1r a _ (Q7 p.1 O0)).mono ?_;rintro e E ⟨⟨r,rfl,j⟩,k⟩;have o:=G7 B k;have y:=Eg.bel C k;clear A he;cases r
         · have d:=U0 (hR.2 (fun h=>absurd (j.2 ((VJ a).1 h.2)) O6));clear hR j;go_wp2;go_ret2;exact ⟨.inl ⟨rfl,d.out⟩,o⟩
         · have d:=U0 (hR.1 (by first | rfl | trivial) ((VJ a).2 (j.1 rfl)));clear hR j;go_wp2;go_ret2;exact ⟨.inr ⟨Xb a,u,q,rfl,d.out,.inr (.inr (.inl ⟨_,rfl⟩)),p,y⟩,o⟩
       · have A:=a1Q;have he:zU (Ag m ls c t) u q=.iface 204 (.agg #[vS m.nm,vS m.tl,vS m.ar,vL u ls.length q,vI c,vS t]):=rfl;rw [he]
         go_wp2_with fail
         refine (a2g m ls c t u q _ p.2.2.1 p.2.2.2.1.1 p.2.2.2.1.2 p.2.2.2.2 C.at').mono ?_;rintro e E ⟨⟨r,rfl,j⟩,k⟩;have o:=G7 B k;have y:=Eg.bel C k;clear A he;cases r
         · have d:=U0 (hR.2 (fun h=>absurd (j.2 ((QO m ls c t).1 h.2)) O6));clear hR j;go_wp2;go_ret2;exact ⟨.inl ⟨rfl,d.out⟩,o⟩
         · have d:=U0 (hR.1 (by first | rfl | trivial) ((QO m ls c t).2 (j.1 rfl)));clear hR j;go_wp2;go_ret2;exact ⟨.inr ⟨Ag m ls c t,u,q,rfl,d.out,.inr (.inr (.inr (.inl ⟨_,_,_,_,rfl⟩))),p,y⟩,o⟩
       · have A:=a1P;have he:zU (U_) u q=.iface 207 (.agg #[]):=rfl;rw [he]
         go_wp2_with fail
         refine (a1b _).mono ?_;rintro e E ⟨⟨r,rfl,j⟩,k⟩;have o:=G7 B k;have y:=Eg.bel C k;clear A he;cases r
         · have d:=U0 (hR.2 (fun h=>absurd (j.2 trivial) O6));clear hR j;go_wp2;go_ret2;exact ⟨.inl ⟨rfl,d.out⟩,o⟩
         · have d:=U0 (hR.1 (by first | rfl | trivial) (.inr (.inr (.inr (.inr rfl)))));clear hR j;go_wp2;go_ret2;exact ⟨.inr ⟨U_,u,q,rfl,d.out,.inr (.inr (.inr (.inr rfl))),p,y⟩,o⟩
 · have d:Hid (∀ z,RE s.data.toList z false):=fun z=>NV O0 z;have hd:decide (16000<(s.size:Int))=true:=U7;go_enter func69,ntmps69;go_wp2;go_ret2;exact ⟨.inl ⟨rfl,d.out⟩,Z4 _ _⟩
theorem LV (v:Value) (w:World):(Instr.typeAssert (.iface 200 v) 132 200 true).run prog w=.ok (.tuple #[v,.bool true]) w:=J3
theorem QS (v:Value) (w:World):(Instr.typeAssert (.iface 201 v) 132 200 true).run prog w=.ok (.tuple #[.int .i64 0,.bool false]) w:=J3
theorem gV (v:Value) (w:World):(Instr.typeAssert (.iface 201 v) 132 201 true).run prog w=.ok (.tuple #[v,.bool true]) w:=J3
theorem rV (v:Value) (w:World):(Instr.typeAssert (.iface 202 v) 132 200 true).run prog w=.ok (.tuple #[.int .i64 0,.bool false]) w:=J3
theorem RS (v:Value) (w:World):(Instr.typeAssert (.iface 202 v) 132 201 true).run prog w=.ok (.tuple #[.agg #[.string ⟨#[]⟩,.string ⟨#[]⟩],.bool false]) w:=J3
theorem aU (v:Value) (w:World):(Instr.typeAssert (.iface 202 v) 132 202 true).run prog w=.ok (.tuple #[v,.bool true]) w:=J3
theorem CS (v:Value) (w:World):(Instr.typeAssert (.iface 204 v) 132 200 true).run prog w=.ok (.tuple #[.int .i64 0,.bool false]) w:=J3
theorem nS (v:Value) (w:World):(Instr.typeAssert (.iface 204 v) 132 201 true).run prog w=.ok (.tuple #[.agg #[.string ⟨#[]⟩,.string ⟨#[]⟩],.bool false]) w:=J3
theorem eU (v:Value) (w:World):(Instr.typeAssert (.iface 204 v) 132 202 true).run prog w=.ok (.tuple #[.string ⟨#[]⟩,.bool false]) w:=J3
theorem jV (v:Value) (w:World):(Instr.typeAssert (.iface 204 v) 132 204 true).run prog w=.ok (.tuple #[v,.bool true]) w:=J3
theorem XT (v:Value) (w:World):(Instr.typeAssert (.iface 207 v) 132 200 true).run prog w=.ok (.tuple #[.int .i64 0,.bool false]) w:=J3
theorem wU (v:Value) (w:World):(Instr.typeAssert (.iface 207 v) 132 201 true).run prog w=.ok (.tuple #[.agg #[.string ⟨#[]⟩,.string ⟨#[]⟩],.bool false]) w:=J3
theorem YS (v:Value) (w:World):(Instr.typeAssert (.iface 207 v) 132 202 true).run prog w=.ok (.tuple #[.string ⟨#[]⟩,.bool false]) w:=J3
theorem pU (v:Value) (w:World):(Instr.typeAssert (.iface 207 v) 132 204 true).run prog w=.ok (.tuple #[.agg #[.string ⟨#[]⟩,.string ⟨#[]⟩,.string ⟨#[]⟩,.slice none 0 0,.int .i64 0,.string ⟨#[]⟩],.bool false]) w:=J3
theorem QT (v:Value) (w:World):(Instr.typeAssert (.iface 207 v) 132 207 true).run prog w=.ok (.tuple #[v,.bool true]) w:=J3
def zE:List Value:=[.int .i64 0,.int .i64 0,.string ⟨#[]⟩,.string ⟨#[]⟩,.string ⟨#[]⟩,.string ⟨#[]⟩,.string ⟨#[]⟩,.slice none 0 0,.int .i64 0,.string ⟨#[]⟩]
theorem zJ:Ii.le 1048576:=⟨D5 _,D5 _,⟨D5 _,D5 _,D5 _⟩,⟨D5 _,fun _=>⟨D5 _,D5 _⟩⟩,D5 _⟩
end Go.Proofs.YtkdbheidpdjimaaGreatDoor
namespace Go.Proofs.YtkdbheidpdjimaaGreatDoor.T
open Proofs.Tryz Go.RowKit
variable {u u' w:World} {B base n size:Nat} {e:TypeId} {A v:Value} {xs:List Value} {gs:List F2}
theorem QC {b j:Nat} {x:Value} (h:w.ownsRow base e size v n xs) (hb:b<base):(w.setCell ⟨b,j,none⟩ x).ownsRow base e size v n xs:=I7 h (fun q a=>(uh w b j x).block q (fun e=>by have:=P6 h a;omega))
def Ou (fs:List F2):List Value:=fs.flatMap fun x=>[.string x.nm,.string x.tx]
theorem iq {p:Prop} (h:p):Hid p:=h
theorem mO (fs:List F2) (x:F2):Ou (fs++[x])=Ou fs++[.string x.nm,.string x.tx]:=by simp [Ou]
theorem yB:Inf prog 99 2:=Wy J3
theorem Nv {t:TypeId} (h:B=w.heap.size):Cl (w.alloc (.cells xs.toArray t)) B t xs:=h▸G6 w xs t
theorem Za (h:w.ownsRow base e size v n xs):∃ a c,v=.slice a n c:=by
 rcases h.2 with ⟨rfl,rfl⟩ | ⟨g,cap,cur,rfl,_⟩
 · exact ⟨_,_,rfl⟩
 exact ⟨_,_,rfl⟩
theorem qi (h:Below B w u) (g:u.grownBy u' v.ownBlock) (hz:B<=u.heap.size) (hv:∀ k,v.ownBlock=some k->B<=k):Below B w u':=
 ⟨g.os.trans h.os,g.tape.trans h.tape,g.output.trans h.output,Q7 h.size g.size,fun k a=>(g.block k O0 (fun e=>by have:=hv k e.symm;omega)).trans (h.block k a)⟩
structure W6 (w:World) (A v:Value) (gs:List F2) (u:World):Prop where
 b:Bw w u
 h0:Cl u w.heap.size 41 [A]
 h1:Cl u (w.heap.size+1) 41 [.slice none 0 0]
 h2:Cl u (w.heap.size+1+1) 41 [v]
 ho:u.ownsRow (w.heap.size+3) 99 2 v gs.length (Ou gs)
theorem W6.below (h:W6 w A v gs u) (a:Bw u u'):W6 w A v gs u':=
 ⟨h.b.trans (a.mono h.b.size),h.h0.below a h.h0.lt,h.h1.below a h.h1.lt,h.h2.below a h.h2.lt,ownsRow_below h.ho a⟩
theorem W6.app {v':Value} {x:F2} (h:W6 w A v gs u) (hr:u'.ownsRow (w.heap.size+3) 99 2 v' (gs.length+1) (Ou gs++[.string x.nm,.string x.tx])) (d:u.grownBy u' v.ownBlock):Below (w.heap.size+3) u u'/\W6 w A v' (gs++[x]) (u'.setCell ⟨w.heap.size+1+1,0,none⟩ v'):=by
 have k:∀ j,v.ownBlock=some j->w.heap.size+3<=j:=fun j e=>(h.ho.lt j e).1;have hB:=qi (Z4 (w.heap.size+3) u) d h.h2.lt k;have c2:=h.h2.below hB O0;have c:=(Z4 (w.heap.size+1+1) u').setCell (p:=(aA (w.heap.size+1+1) 0)) x9 v';have a:Below (w.heap.size+1+1) u _:=(hB.mono O0).trans c;refine ⟨hB,h.b.trans (a.mono O0),h.h0.below a O0,h.h1.below a O0,c2.set 0 v',?_⟩;rw [N9,mO];exact QC hr O0
def nq (nm:BY) (y:F2):Bool:=!(y.nm.toList==nm.toList)
theorem a0r (a:OA) (n:Nat) (fs:List F2) (nm:BY) (w:World) (hl:fs.length<=1000) (t:J6 w a fs):
 Calls prog 157 #[.agg #[.slice a fs.length n],.string nm] w fun e w'=>(∃ v gs,e=.returned (.agg #[v])/\w'.ownsRow w.heap.size 99 2 v gs.length (Ou gs)/\gs.length<=fs.length/\(∀ x∈gs,x∈fs)/\gs=fs.filter (nq nm))/\Bw w w':=by
 obtain ⟨b,off,hc⟩:=h_ t;have C:=iq hc;clear hc t;go_enter func157,ntmps157
 go_wp2_with fail
 go_loopw [6] (fun i wr=>∃ (k:Nat) (v:Value) (gs:List F2),i=.int .i64 k/\k<=fs.length/\gs.length<=k/\Hid (gs=(fs.take k).filter (nq nm))/\Hid (W6 w (.slice a fs.length n) v gs wr)) (fun i _=>fs.length - (intOf i).toNat)
 case atStart=>exact ⟨0,_,[],rfl,D5 _,Y9 _,rfl,⟨(o7.alloc I4 _).alloc U7 _,Oa (Oa (G6 w [_] 41) _) _,Oa (Nv (xs:=[_]) I4) _,Nv (xs:=[_]) I4,ng _ _ _ _⟩⟩
 obtain ⟨k,v,gs,rfl,hk,hg,h,H⟩:=hrel;obtain ⟨va,j,rfl⟩:=Za H.out.ho;have I:=H.out.h0.cell 0;have A:=H.out.h1.cell 0;have f1:=H.out.h1.opn 0;have F:=H.out.h2.cell 0;dsimp only [List.getElem?_cons_zero] at I A F;by_cases f:k<fs.length;rotate_left
 · go_wp2;have E:=Bf wr (aA (w.heap.size+1) 0) (vL va gs.length j) A;refine P7 (v:=.agg #[vL va gs.length j]) (by simp [results,results157,go_sem,E]) rfl ⟨⟨_,gs,rfl,yg (QC H.out.ho O0) O0,O0,(fun x hx=>by rw [h.out] at hx;exact qy (Pv.1 hx).1),by rw [h.out,u_ O0]⟩,H.out.b.setCell I4 _⟩
 obtain ⟨ha,s,l⟩:=Nc C.out f;subst ha;have g0:=(H.out.b.cell (p:=(aA b (off+k*2))) s).trans (l k f).1;have g1:=(H.out.b.cell (p:=(aA b (off+k*2+1))) s).trans (l k f).2;have B:Hid (fs.take (k+1)=fs.take k++[fs.getD k P8]):=by show _=_;rw [Uy f];simp [List.getD,f]
 generalize fs.getD k P8=x at*;clear l C;cases hne:(x.nm.toList==nm.toList);rotate_left
 · have r:Hid (gs=(fs.take (k+1)).filter (nq nm)):=by show _=_;rw [B.out,gu,<- h.out];simp [nq,hne]
   go_wp2;go_roundw
   case rel=>exact ⟨k+1,_,gs,by go_num,O0,O0,r,H⟩
   case measure=>simp [intOf];omega
 go_wp2_with fail
 refine Kv (S:=fun u=>u.cell? (aA (w.heap.size+1+1) 0)=some (vL va gs.length j)/\u.cell? (aW w 0)=some (vL (some (aA b off)) fs.length n)/\u.cell? (aA b (off+k*2))=some (vS x.nm)/\u.cell? (aA b (off+k*2+1))=some (vS x.tx)) 10 J3 ?_ fun hH=>?_
 · ((try dsimp only);go_keep)
 refine lq 0 hH ?_;refine lq 1 hH ?_;refine lq 2 hH ?_;refine lq 3 hH ?_;refine lq 4 hH ?_;refine lq 5 hH ?_
 try simp only [qq]
 refine lq 6 hH ?_
 try simp only [qq]
 refine lr (i:=7) (o:=⟨some 30,.buildSlice 39 1 #[(0,.tmp 29)],39,_,_,none⟩) rfl O6 J3 fun K c=>?_;go_simp;obtain ⟨y,g⟩:∃ y:World,y=(wr.alloc (.cells #[vS x.nm,vS x.tx] 99)).drew:=⟨_,rfl⟩;rw [<- g];have m:Bw wr y:=by rw [g];exact o7.drew
 have r:Hid (Cl y wr.heap.size 99 [vS x.nm,vS x.tx]):=by show Cl _ _ _ _;rw [g];exact G6 wr _ 99
 have d:=iq (H.out.below m);have hbz:=H.out.b.size;have e0:=(m.cell (p:=(aA b (off+k*2))) (by show b<_;omega)).trans g0;have e1:=(m.cell (p:=(aA b (off+k*2+1))) (by show b<_;omega)).trans g1;clear g hH;refine J8 c ?_ fun hH=>?_
 · exact ⟨d.out.h2.cell 0,d.out.h0.cell 0,e0,e1⟩
 clear c K;refine lr (i:=8) (o:=⟨some 31,.call ⟨.builtin .append,#[.tmp 24,.tmp 30],#[39,39]⟩,39,_,_,none⟩) rfl O6 J3 fun K c=>?_;refine Pm rfl _ _ 39 rfl (w.heap.size+3) 99 2 underlying39 yB O6 _ gs.length _ rfl d.out.ho _ 1 [vS x.nm,vS x.tx] rfl (.inr ⟨(aW wr 0),1,rfl,rfl,pI r.out⟩) (by simp [Value.oneCell']) O0 d.out.h2.lt ?_;intro v' y2 q g2 _;obtain ⟨va',vc',rfl⟩:=Za q;obtain ⟨hB,z⟩:=d.out.app (x:=x) q g2;have c2:=d.out.h2.below hB O0;have J:=iq z;clear z q g2 hH;refine J8 c ?_ fun hH=>?_
 · exact ⟨c2.cell 0,(d.out.h0.below hB O0).cell 0,(hB.cell (by show b<_;omega)).trans e0,(hB.cell (by show b<_;omega)).trans e1⟩
 clear c K;refine lq 9 hH ?_
 try simp only [qq]
 refine lz (o:=⟨none,.store 39 (.tmp 32) (.tmp 31),0,_,_,none⟩) rfl J3 fun K c=>?_;have D:=c2.cell 0;have zf:=c2.opn 0;dsimp only [List.getElem?_cons_zero] at D;go_simp;clear hH;refine c.out _ _ ?_;clear c K
 try simp only [qq]
 refine Ns J3 ?_ _;go_wp2;go_roundw
 case rel=>exact ⟨k+1,_,gs++[x],by go_num,O0,U7,by show _=_;rw [B.out,gu,<- h.out];simp [nq,hne],J⟩
 case measure=>simp [intOf];omega
