import Derived.Shelf.SlSortCmp.WholeK
import Derived.Ground.SlsfProg
import Derived.Test.YtdpoaadafcaffaaGreatDoorDF
set_option linter.unusedVariables false
set_option maxHeartbeats 8000000
set_option maxRecDepth 100000
namespace Go.Proofs
open Go.Shelf
def Tryz.Ux:Go.Shelf.Ren:=⟨fun | 6=>36 | 15=>71 | 14=>70 | 28=>111 | 29=>112 | 20=>103 | 21=>104 | 22=>105 | 23=>106 | 24=>107 | 25=>108 | 26=>109 | 27=>110 | 46=>137 | 47=>138 | 48=>139 | 49=>140 | 50=>141 | 57=>175 | n => n, fun | 22=>28 | 24=>38 | 25=>83 | 3=>3 | 39=>133 | 0=>0 | 53=>181 | 55=>183 | 4=>4 | 46=>175 | 45=>174 | 50=>139 | 5=>5 | 9=>9 | 66=>213 | 70=>217 | 76=>245 | 77=>246 | n => n, fun | n=>n⟩
theorem Tryz.jI:Go.Proofs.SlLaysF0.n6 Tryz.prog Tryz.Ux:={
  mixed:=I1
  f6:=⟨Tryz.f36.name,J3,Tryz.func36.trans (congrArg some I1)⟩
  f14:=⟨Tryz.f70.name,J3,Tryz.func70.trans (congrArg some I1)⟩
  f15:=Tryz.func71.trans (congrArg some I1)
  f20:=⟨Tryz.f103.name,J3,Tryz.func103.trans (congrArg some I1)⟩
  f21:=⟨Tryz.f104.name,J3,Tryz.func104.trans (congrArg some I1)⟩
  f22:=⟨Tryz.f105.name,J3,Tryz.func105.trans (congrArg some I1)⟩
  f23:=⟨Tryz.f106.name,J3,Tryz.func106.trans (congrArg some I1)⟩
  f24:=⟨Tryz.f107.name,J3,Tryz.func107.trans (congrArg some I1)⟩
  f25:=⟨Tryz.f108.name,J3,Tryz.func108.trans (congrArg some I1)⟩
  f26:=⟨Tryz.f109.name,J3,Tryz.func109.trans (congrArg some I1)⟩
  f27:=⟨Tryz.f110.name,J3,Tryz.func110.trans (congrArg some I1)⟩
  f28:=Tryz.func111.trans (congrArg some I1)
  f29:=Tryz.func112.trans (congrArg some I1)
  f46:=⟨Tryz.f137.name,J3,Tryz.func137.trans (congrArg some I1)⟩
  f47:=Tryz.func138.trans (congrArg some I1)
  f48:=Tryz.func139.trans (congrArg some I1)
  f49:=⟨Tryz.f140.name,J3,Tryz.func140.trans (congrArg some I1)⟩
  f50:=⟨Tryz.f141.name,J3,Tryz.func141.trans (congrArg some I1)⟩
  f57:=⟨Tryz.f175.name,J3,Tryz.func175.trans (congrArg some I1)⟩
  t0:=Tryz.underlying0
  a0:=Tryz.isAgg0
  z0:=Tryz.sizeOf0
  v0:=Tryz.zeroValue0
  t3:=Tryz.underlying3
  a3:=Tryz.isAgg3
  z3:=Tryz.sizeOf3
  v3:=Tryz.zeroValue3
  t4:=Tryz.underlying4
  a4:=Tryz.isAgg4
  z4:=Tryz.sizeOf4
  v4:=Tryz.zeroValue4
  t5:=Tryz.underlying5
  a5:=Tryz.isAgg5
  z5:=Tryz.sizeOf5
  v5:=Tryz.zeroValue5
  t9:=Tryz.underlying9
  a9:=Tryz.isAgg9
  z9:=Tryz.sizeOf9
  v9:=Tryz.zeroValue9
  t22:=Tryz.underlying28
  a22:=Tryz.isAgg28
  z22:=Tryz.sizeOf28
  v22:=Tryz.zeroValue28
  t25:=Tryz.underlying83
  a25:=Tryz.isAgg83
  z25:=Tryz.sizeOf83
  v25:=Tryz.zeroValue83
  t39:=Tryz.underlying133
  a39:=Tryz.isAgg133
  z39:=Tryz.sizeOf133
  v39:=Tryz.zeroValue133
  t45:=Tryz.underlying174
  a45:=Tryz.isAgg174
  z45:=Tryz.sizeOf174
  v45:=Tryz.zeroValue174
  t46:=Tryz.underlying175
  a46:=Tryz.isAgg175
  z46:=Tryz.sizeOf175
  v46:=Tryz.zeroValue175
  t50:=Tryz.underlying139
  a50:=Tryz.isAgg139
  z50:=Tryz.sizeOf139
  v50:=Tryz.zeroValue139
  t53:=Tryz.underlying181
  a53:=Tryz.isAgg181
  z53:=Tryz.sizeOf181
  v53:=Tryz.zeroValue181
  t55:=Tryz.underlying183
  a55:=Tryz.isAgg183
  z55:=Tryz.sizeOf183
  v55:=Tryz.zeroValue183
  t66:=Tryz.underlying213
  a66:=Tryz.isAgg213
  z66:=Tryz.sizeOf213
  v66:=Tryz.zeroValue213
  t70:=Tryz.underlying217
  a70:=Tryz.isAgg217
  z70:=Tryz.sizeOf217
  v70:=Tryz.zeroValue217
  t76:=Tryz.underlying245
  a76:=Tryz.isAgg245
  z76:=Tryz.sizeOf245
  v76:=Tryz.zeroValue245
  t77:=Tryz.underlying246
  a77:=Tryz.isAgg246
  z77:=Tryz.sizeOf246
  v77:=Tryz.zeroValue246 }
end Go.Proofs
namespace Go.Proofs.YtdpoaadafcaffaaGreatDoor
open Proofs.Tryz
open Go.RowKit
open G.T (lt Mg Cc xH R9 h_)
def Bp:Value->Bool
 | .slice _ _ _=>true
 | _=>false
theorem Nh {v:Value} (h:Bp v=true):∃ a n c,v=.slice a n c:=by
 cases v
 all_goals first | exact ⟨_,_,_,rfl⟩ | cases h
def Qt (x:De):De:=if Bp x.lv=true then x else Ut
theorem fu (x:De):∃ a n c,(Qt x).lv=.slice a n c:=by
 unfold Qt;split
 · exact Nh (by assumption)
 exact ⟨_,_,_,rfl⟩
theorem Bu {x:De} (h:Bp x.lv=true):Qt x=x:=if_pos h
def eu (x:De):List Value:=(Qt x).vs
def oH (x y:De):Int:=Mg (Qt x).d.nm (Qt y).d.nm
theorem c37 (x y:De) (hx:∃ a n c,x.lv=.slice a n c) (hy:∃ a n c,y.lv=.slice a n c) (w:World):Calls prog 37 #[.agg x.vs.toArray,.agg y.vs.toArray] w fun e w'=>e=.returned (.int .i64 (Mg x.d.nm y.d.nm))/\∃ os,w'=Sort.grow w os:=by
 obtain ⟨⟨n,md,⟨m1,m2,m3⟩,ls,⟨rc,rt⟩,wt⟩,lv⟩:=x;obtain ⟨⟨n',md',⟨m1',m2',m3'⟩,ls',⟨rc',rt'⟩,wt'⟩,UM⟩:=y;obtain ⟨a,k,c,rfl⟩:=hx;obtain ⟨a',k',c',rfl⟩:=hy;have h43:=fun u=>xH n n' u;dsimp only;generalize Mg n n'=r at*;go_enter func37,ntmps37;simp only [De.vs]
 go_wp2_with fail
 refine (h43 _).mono ?_;rintro e w1 ⟨rfl,hw⟩;clear h43;go_wp2;go_ret;exact ⟨rfl,_,by rw [Sort.alloc_eq_grow,Sort.alloc_eq_grow,Sort.grow_grow]⟩
theorem cmpL [Inhabited De] (blk off size:Nat) (w:World):CmpLays prog 37 #[] eu 8 oH blk off size w:=fun _ _ _ _ x y=>(c37 (Qt x) (Qt y) (fu x) (fu y) _).mono fun _ _ ⟨he,os,hw⟩=>⟨he,0,os,by rw [hw];rfl⟩
theorem DI (x y:De):ltOf oH x y=lt (Qt x).d.nm (Qt y).d.nm:=by
 unfold ltOf oH;cases h:lt (Qt x).d.nm (Qt y).d.nm
 · exact decide_eq_false fun c=>by rw [(Cc _ _).1 c] at h;cases h
 exact decide_eq_true ((Cc _ _).2 h)
theorem qJ:Sort.SWO (ltOf oH) where
 irrefl x:=by rw [DI];exact h_ _
 trans x y z h k:=by rw [DI] at *;exact R9 h k
 ntrans x y z h k:=by
  rw [DI] at*;cases hc:lt (Qt x).d.nm (Qt z).d.nm
  · rfl
  by_cases e:(Qt y).d.nm=(Qt z).d.nm
  · rw [e,hc] at h;cases h
  rw [R9 hc (Yt e k)] at h;cases h
theorem rF (x:De):∀ v∈eu x,v.oneCell'=true:=by
 obtain ⟨a,n,c,e⟩:=fu x;exact Ip _ (by rw [e];rfl)
theorem Aw [Inhabited De] (xs:List De) (h:∀ x∈xs,Bp x.lv=true) (j:Nat) (hj:j<xs.length*8):(Co xs)[j]?=some ((Sort.flatK eu 8 xs.toArray)[j]!):=by
 have h1:j / 8<xs.length:=O0;have h2:j % 8<8:=Nat.mod_lt _ J3;rw [Sort.get_flatK _ _ _ _ (by simpa using hj)];have h3:=jw xs (j / 8) (j % 8) h1 h2;rw [show j / 8*8+j % 8=j by omega] at h3;rw [h3];have h4:xs.toArray[j / 8]! =xs[j / 8]:=by simp [h1]
 have h5:xs.getD (j / 8) Ut=xs[j / 8]:=by simp [List.getD,List.getElem?_eq_getElem h1]
 rw [h4,h5,eu,Bu (h _ (List.getElem_mem h1))];have h6:j % 8<(xs[j / 8]).vs.length:=by rw [Wl];exact h2
 rw [List.getElem?_eq_getElem h6];exact congrArg some (getElem!_pos (xs[j / 8]).vs (j % 8) h6).symm
theorem DL (base g cap:Nat) (xs:List De) (w:World) (hr:w.ownsRow base 38 8 (.slice (some ⟨g,0,none⟩) xs.length cap) xs.length (Co xs)) (hs:∀ x∈xs,Bp x.lv=true) (hl:xs.length<=1000000):Calls prog 36 #[.slice (some ⟨g,0,none⟩) xs.length cap,.func (.func 37) #[] #[]] w fun e w'=>e=.returned (.tuple #[])/\∃ ys,ys.Perm xs/\(ys.Pairwise fun a b=>lt b.d.nm a.d.nm=false)/\w'.ownsRow base 38 8 (.slice (some ⟨g,0,none⟩) xs.length cap) ys.length (Co ys)/\w.grownBy w' (some g):=by
 haveI:Inhabited De:=⟨Ut⟩
 have eg:∀ args w,(callFunc 37 args).run prog w=.ok (.enter 37 args) w:=enters_of func37 I1 rfl;obtain ⟨hbg,a3t,hg0⟩:=J2 hr (k:=g) rfl;have hH:Sort.HoldsK eu 8 w g 0 xs.toArray:=fun j hj=>by
  have hj':j<xs.length*8:=by simpa using hj
  have h1:=hr.cells rfl j _ (Aw xs hs j hj');refine ⟨by rw [Nat.zero_add];rw [M.Io,Nat.zero_add] at h1;exact h1,?_⟩;simp [World.frozen?,hg0]
 have hcon:=AnyQ.slices_SortFunc Tryz.jI 8 (fun _=>I1) (fun _=>I1) eu (fun _=>rfl) rF oH qJ 37 #[] g 0 cap xs.toArray w eg (cmpL g 0 _ w) hH (F4 hg0) X3;change Calls prog 36 _ _ _ at hcon;rw [List.size_toArray] at hcon;refine hcon.mono ?_;rintro e w' ⟨rfl,d',n,os,⟨hsz,_,hpm⟩,hso,rfl⟩;have hsz:d'.size=xs.length:=by simpa using hsz
 have hp:d'.toList.Perm xs:=by
  have:(d'.extract 0 xs.length).toList=d'.toList:=by rw [<- hsz];simp
  rw [this] at hpm;simpa using hpm
 have hys:∀ y∈d'.toList,Bp y.lv=true:=fun y hy=>hs y (hp.mem_iff.1 hy);have hln:d'.toList.length=xs.length:=hp.length_eq;refine ⟨rfl,d'.toList,hp,?_,?_,rfl,rfl,rfl,?_,?_⟩
 · rw [List.pairwise_iff_getElem]
   intro i j hi hj hij;have:=hso i j (Nat.zero_le _) hij O0;rw [DI] at this;have e1:d'[i]! =d'.toList[i]:=by simp at hi;simp [hi]
   have e2:d'[j]! =d'.toList[j]:=by simp at hj;simp [hj]
   rw [e1,e2,Bu (hys _ (List.getElem_mem hi)),Bu (hys _ (List.getElem_mem hj))] at this;exact this
 · rcases hr.2 with ⟨hv,_⟩ | ⟨g',cap',cur,hv,a1K,hgc,hnc,hcm,hcs,htk⟩
   · cases hv
   injection hv with e1 e2 e3;subst e3;obtain rfl:g=g':=by injection e1 with e1;injection e1
   refine ⟨Gv _,.inr ⟨g,cap,Sort.putCells id 0 (Sort.flatK eu 8 d') cur,by rw [hln],a1K,?_,O0,hcm,?_,?_⟩⟩
   · have hlt:=F4 hgc
     simp only [sortWorldK,Sort.grow,Sort.putRowK,Sort.putRow,Sort.mapBlock,Sort.ahead];rw [Array.getElem?_append_left (by simpa using hlt),Array.getElem?_modify,if_pos rfl,hgc];rfl
   · simp [Sort.putCells,hcs]
   apply List.ext_getElem?;intro j;rw [hln];by_cases hj:j<xs.length*8
   · rw [List.getElem?_take_of_lt hj,Aw d'.toList hys j O0]
     have hjc:j<cur.size:=by have:=Nat.mul_le_mul_right 8 hnc;omega
     have hq:j<d'.size*8:=by rw [hsz];exact hj
     simp [Sort.putCells,hjc,hq]
   rw [List.getElem?_eq_none (by rw [List.length_take];omega),List.getElem?_eq_none (by rw [Gv];omega)]
 · simp only [sortWorldK,Sort.size_grow,Sort.putRowK,Sort.putRow,Sort.mapBlock,Sort.ahead,Array.size_modify]
   omega
 intro k hk hne;simp only [sortWorldK,Sort.grow,Sort.putRowK,Sort.putRow,Sort.mapBlock,Sort.ahead];rw [Array.getElem?_append_left (by simpa using hk),Array.getElem?_modify,if_neg (fun e=>hne (congrArg some e.symm))]
end Go.Proofs.YtdpoaadafcaffaaGreatDoor
