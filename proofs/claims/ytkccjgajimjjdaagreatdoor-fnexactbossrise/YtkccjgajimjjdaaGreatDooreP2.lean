import Derived.Test.YtkccjgajimjjdaaGreatDoorKC
import Derived.Shelf.Strings.Builder1
import Derived.Laws.Externs
set_option linter.unusedVariables false
set_option maxHeartbeats 8000000
set_option maxRecDepth 100000
namespace Go.Proofs.YtkccjgajimjjdaaGreatDoor
open Proofs.Tryz Go.RowKit
def Fg(m:M3)(ls:List L4)(c:Int)(t:BY):Prop:=Uf m=true/\yg ls/\vr c t.data.toList=true
def kC(P:Prop)(l:List UInt8)(e:Ending):Prop:=∃s,e=.returned (.string s)/\((P/\s=I4 l)\/(¬P/\s=⟨#[]⟩))
theorem Jl{P:Prop}{l:List UInt8}(h:¬P):kC P l (.returned (.string ⟨#[]⟩)):=⟨_,rfl,.inr ⟨h,rfl⟩⟩
theorem kC.congr{P Q:Prop}{l k:List UInt8}{e:Ending}(h:kC P l e)(a:P↔Q)(hl:P->l=k):kC Q k e:=by
 obtain⟨s,rfl,h⟩:=h;refine⟨s,rfl,?_⟩;rcases h with⟨h1,h2⟩|⟨h1,h2⟩
 ·exact .inl ⟨a.1 h1,by rw[h2,hl h1]⟩
 exact .inr ⟨λh=>h1 (a.2 h),h2⟩
theorem c76(m:M3)(ls:List L4)(c:Int)(t:BY)(g:OA)(l:Nat)(w:World)(hm:m.le 1048576)(hl:ls.length<=1048576)(q:∀i,(ls.getD i M_).le 1048576)(ht:t.size<=1048576)(v:S9 w g ls):
 Calls prog 76 #[.agg #[.string m.nm,.string m.tl,.string m.ar],.slice g ls.length l,.agg #[.int .i64 c,.string t]] w λe w'=>zn (Fg m ls c t) e/\Bw w w':=by
 go_in
 go_wp2_with fail
 refine(a2S m _ ⟨I8 hm.1 O0,I8 hm.2.1 O0,I8 hm.2.2 O0⟩).mono ?_;rintro e w1⟨rfl,j⟩;have b:Below (w.heap.size+2) ((w.alloc (.cells #[vS m.nm,vS m.tl,vS m.ar] 69)).alloc (.cells #[vI c,vS t] 72)) w1:=YD j;have o:U6 ((w.alloc (.cells #[vS m.nm,vS m.tl,vS m.ar] 69)).alloc (.cells #[vI c,vS t] 72)) (w.heap.size+1) [vI c,vS t]:=by have h:=a_ (w.alloc (.cells #[vS m.nm,vS m.tl,vS m.ar] 69)) [vI c,vS t] 72;simp at h;exact h
 have y:=o.below b O0;have f:=(Y6.alloc E5 _).trans (b.mono O0);have p:w.heap.size+1<w1.heap.size:=by have h:=b.size;simp at h;omega
 clear j o;cases hn:Uf m
 ·have a:Hid (zn (Fg m ls c t) (.returned (.bool false))):=S_ (λh=>by have h1:=h.1;rw[hn]at h1;cases h1);go_wp2;go_ret;exact⟨a.out,f⟩
 go_wp2_with fail
 refine(c119 g l ls _ hl q (U7 v f)).mono ?_;rintro e w2⟨⟨r,rfl,hr⟩,d⟩;have k:=J5 f d;have n:=y.below d p;have k0:=n 0 _ rfl;have k1:=n 1 _ rfl;clear d;cases r
 ·have a:Hid (zn (Fg m ls c t) (.returned (.bool false))):=S_ (λh=>absurd (hr.2 h.2.1) Z5);clear hr;go_wp2;go_ret;exact⟨a.out,k⟩
 have s:=hr.1 rfl;clear hr
 go_wp2_with fail
 refine(zQ c t _ O0).mono ?_;rintro e w3⟨rfl,u⟩;have x:=J5 k u;have a:Hid (zn (Fg m ls c t) (.returned (.bool (vr c t.data.toList)))):=⟨_,rfl,⟨λh=>⟨hn,s,h⟩,λh=>h.2.2⟩⟩;go_wp2;go_ret;exact⟨a.out,x⟩
theorem vK{B i j:Nat}(h:i≠j):(⟨B,i,none⟩:Addr)≠⟨B,j,none⟩:=by intro e;injection e with _ e;exact h e
end Go.Proofs.YtkccjgajimjjdaaGreatDoor
namespace Go.Proofs
open Go.Shelf
def Tryz.lays169_ren:Go.Shelf.Ren:=⟨λ| 169=>270|n=>n, λ| 70=>343|9=>9|0=>0|72=>345|37=>181|127=>386|3=>3|5=>5|n=>n, λ| n=>n⟩
theorem Tryz.lays169:Go.Proofs.Lays.n169 prog Tryz.lays169_ren:={
 mixed:=Y1
 f169:=func270.trans (l7 some Y1)
 t0:=underlying0
 a0:=Tryz.isAgg0
 z0:=Tryz.sizeOf0
 v0:=Tryz.zeroValue0
 t3:=underlying3
 a3:=Tryz.isAgg3
 z3:=Tryz.sizeOf3
 v3:=Tryz.zeroValue3
 t9:=underlying9
 a9:=Tryz.isAgg9
 z9:=Tryz.sizeOf9
 v9:=Tryz.zeroValue9
 t37:=underlying181
 a37:=Tryz.isAgg181
 z37:=Tryz.sizeOf181
 v37:=Tryz.zeroValue181
 t70:=underlying343
 a70:=Tryz.isAgg343
 z70:=Tryz.sizeOf343
 v70:=Tryz.zeroValue343
 t72:=underlying345
 a72:=Tryz.isAgg345
 z72:=Tryz.sizeOf345
 v72:=Tryz.zeroValue345
 t127:=underlying386
 a127:=Tryz.isAgg386
 z127:=Tryz.sizeOf386
 v127:=Tryz.zeroValue386 }
theorem Tryz.Builder_Extra_169:Builder.Extra prog Tryz.lays169_ren:={
 sizeBuilder:=Y1
 liesBuilder:=Y1
 t5:=underlying5
 a5:=Tryz.isAgg5
 z5:=Tryz.sizeOf5
 v5:=Tryz.zeroValue5
 infoByte:=Y1
 cellsByte:=Y1
 sizeByte:=Y1
 neB5:=by decide }
open Go.RowKit in
theorem Tryz.Builder_String_any(B b:Nat)(l:List UInt8)(w:World)(h:Lib.IsBuilder 345 5 B b (Lib.byteCells l) w)(a:B<=w.heap.size):
 Calls prog 270 #[.pointer (some ⟨b,0,none⟩)] w λe w'=>e=.returned (.string ⟨l.toArray⟩)/\Below B w w':=Any.Builder_String_any Tryz.lays169 Tryz.Builder_Extra_169 B b l w h a
end Go.Proofs
namespace Go.Proofs.YtkccjgajimjjdaaGreatDoor
open Proofs.Tryz Go.RowKit
variable{w:World}{b n:Nat}{o:Obj}{e:TypeId}{v:Value}{xs:List Value}
theorem UK:(prog.info? 345).map (λi=>i.size)=some 2:=Y1
theorem info5:(prog.info? 5).map (λi=>(i.zero,i.size,i.bytes))=some (some (.int .u8 0),1,1):=Y1
theorem rY:liesAt prog prog.depth 345 (2 / prog.cellsOf 345) 0 345 1=true:=Y1
theorem MI(b:Nat)(w:World)(h0:w.cell? ⟨b,0,none⟩=some (.pointer (some ⟨b,0,none⟩))):
 Calls prog 301 #[.pointer (some ⟨b,0,none⟩)] w λe w'=>e=.returned (.tuple #[])/\w'=w:=by
 obtain⟨j,a,_⟩:=WB.1 UK;have kn:=Lib.run_neq_ptr_same (P:=prog) w (aA b 0) underlying343 a
 go_in
 go_wp2
 go_end0
 exact⟨rfl,rfl⟩
theorem wI(b:Nat)(w:World)(h0:w.cell? ⟨b,0,none⟩=some (.pointer none))(a:w.shape? b=some (345,2))(hfz:w.frozen? ⟨b,0,none⟩=false):
 Calls prog 301 #[.pointer (some ⟨b,0,none⟩)] w λe w'=>e=.returned (.tuple #[])/\w'=w.setCell ⟨b,0,none⟩ (.pointer (some ⟨b,0,none⟩)):=by
 obtain⟨j,c,d⟩:=WB.1 UK;have k1:=Lib.run_to_unsafe (P:=prog) w (aA b 0) underlying343 underlying321 c (by rw[d];decide) a (Nat.zero_lt_succ 1);have k3:=Lib.run_from_unsafe (P:=prog) w (aA b 0) underlying321 underlying343 c a rY;have k2:∀x,Sem.run prog (callFunc 321 #[x]) w=.ok (.value x) w:=λx=>by
  rw[run_callFunc_extern func321 Y1 Y1 Y1 (e:=Extern.AbiNoEscape.same) Y1];rw[Lib.run_noEscape];rfl
 go_in
 go_wp2
 go_end0
 exact⟨rfl,rfl⟩
theorem a4W(B b:Nat)(a:List Value)(w:World)(h:Lib.IsBuilder 345 5 B b a w):
 Calls prog 301 #[.pointer (some ⟨b,0,none⟩)] w λe w'=>e=.returned (.tuple #[])/\Lib.BuilderAt 345 5 B b (.pointer (some ⟨b,0,none⟩)) a w'/\Below B w w'/\w'.heap.size=w.heap.size:=by
 rcases h with h|h
 ·refine(wI b w h.cell0 h.shape h.frozen0).mono ?_;rintro e w'⟨rfl,rfl⟩;exact⟨rfl,h.used _,(G5 B w).setCell (p:=(aA b 0)) h.1 _,E5⟩
 refine(MI b w h.cell0).mono ?_;rintro e w'⟨rfl,rfl⟩;exact⟨rfl,h,G5 B _,rfl⟩
theorem mg(h:w.heap[b]?=some o):b<w.heap.size:=by
 rcases D8 b w.heap.size with a|a
 ·exact a
 simp[Qp a]at h
theorem zO{B:Nat}(h:w.ownsRow B e 1 v n xs):∃ao c,v=.slice ao n c:=by
 rcases h.2 with⟨hv,h0⟩|⟨g,cap,cur,hv,_⟩
 ·exact⟨none,0,by rw[hv,h0]⟩
 exact⟨_,_,hv⟩
theorem TN{w1 a:World}(c:w1.heap[b]?=some o)(d:v.ownBlock≠some b)(f:w1.grownBy a v.ownBlock):a.heap[b]?=some o:=by
 rw[f.block b (mg c) (λe=>d e.symm)];exact c
theorem a1r(B b:Nat)(a:List Value)(c:Int)(w:World)(h:Lib.IsBuilder 345 5 B b a w)(hlen:a.length+1<=140737488355328)(hBw:B<=w.heap.size):
 Calls prog 268 #[.pointer (some ⟨b,0,none⟩),.int .u8 c] w λe w'=>e=.returned .nilIface/\Lib.IsBuilder 345 5 B b (a++[.int .u8 c]) w'/\Below B w w':=by
 obtain⟨q,z,t,s,r⟩:=info_parts info5;have E:=U0 h;clear h
 go_in
 go_wp2_with fail
 refine(a4W B b a w E.out).mono ?_;rintro e w1⟨rfl,h1,A,x⟩;obtain⟨hB,v,g,m,n⟩:=h1;have C:B<=w1.heap.size:=O0;have o:=U0 g;have D:=U0 n;have c1:w1.cell? (aA b 1)=some v:=by rw[Lib.cell_of_heap g];rfl
 clear g n x
 go_wp2_with(at_builtin;refine wpList_append_own _ rfl _ _ 181 rfl B 5 q (.int .u8 0) 1 1 underlying181 z t s r rfl Z5 _ _ _ rfl (m.alloc _) ⟨w1.heap.size,0,none⟩ 1 1 [.int .u8 c] rfl rfl (cell_one_new _ _ _) (by intro u j;simp at j;subst j;rfl) (by unfold maxLen;omega) O0 Q8 ?_;intro v' d l f _;have i:Hid (d.heap[b]?=some (.cells #[.pointer (some ⟨b,0,none⟩),v] 345 (0,0))):=TN (v:=v) (by rw[Below.heap_alloc w1 _ b (mg o.out)];exact o.out) D.out f;have F:Hid (Below B w d):=(A.alloc C _).grown f Q8 (λk y=>(m.lt k y).1);obtain⟨ao,cp,rfl⟩:=zO l;have d1:d.cell? ⟨b,1,none⟩=some v:=(by rw[Lib.cell_of_heap i.out];rfl);have f1:d.frozen? ⟨b,1,none⟩=false:=Lib.frozen_of_heap i.out 1;clear f)
 go_ret;refine⟨rfl,.inr ?_,?_⟩
 ·exact Lib.BuilderAt.put (T:=345) (e:=5) hB i.out (bs':=a++[.int .u8 c]) (by simpa using l) Z5
 exact F.out.setCell (p:=(aA b 1)) hB _
theorem ownsRow_below{w':World}{base:Nat}{size:Nat}(h:w.ownsRow base e size v n xs)(c:Bw w w'):w'.ownsRow base e size v n xs:=by
 obtain⟨h1,h2⟩:=h;refine⟨h1,?_⟩;rcases h2 with h|⟨g,cap,cur,hv,b,a,hr⟩
 ·exact .inl h
 exact .inr ⟨g,cap,cur,hv,b,by rw[c.block g (mg a)];exact a,hr⟩
